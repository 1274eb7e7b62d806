/-
  Zones: sets of floors, bit by bit (the program).
-/
import Derived.Test.YtnpnlckdggakmaaZonP
import Derived.Test.YtnpnlckdggakmaaFnd
namespace Go.Proofs.Ytnpnlckdggakmaa
open Go.RowKit Pl
set_option linter.unusedSimpArgs false
set_option linter.unusedVariables false

/-- A bit of a mask, as a number. -/
def bN (m f : Nat) : Int := if m.testBit f = true then 1 else 0
theorem bN_bd (m f : Nat) : 0 ≤ bN m f ∧ bN m f ≤ 1 := by unfold bN; split <;> omega
theorem bN_eq (m f : Nat) : (bN m f == 1) = m.testBit f := by unfold bN; cases m.testBit f <;> rfl
/-- A set of floors, bit by bit. -/
def bvs (m : Nat) : List Value := (List.range 12).map (fun f : Nat => .int .u8 (bN m f))
theorem bvs_len (m : Nat) : (bvs m).length = 12 := by simp [bvs]
theorem bvs_size (m : Nat) : (bvs m).toArray.size = 12 := by simp [bvs]
theorem bvs_get {m f : Nat} (h : f < 12) : (bvs m)[f]? = some (.int .u8 (bN m f)) := by simp [bvs, h]
theorem bvs_one (m : Nat) : (bvs m).toArray.all (·.oneCell') = true := by simp [bvs, List.range_succ, Value.oneCell']
theorem bvs_set {m f : Nat} (h : f < 12) : (bvs m).set f (.int .u8 1) = bvs (m ||| 2 ^ f) := by
  apply List.ext_getElem?
  intro j
  by_cases hj : j < 12
  · rw [bvs_get hj, List.getElem?_set]
    by_cases e : f = j
    · subst e
      rw [if_pos rfl, if_pos (by rw [bvs_len]; exact h)]
      unfold bN
      rw [Nat.testBit_or, Nat.testBit_two_pow]
      simp
    · rw [if_neg e, bvs_get hj]
      unfold bN
      rw [Nat.testBit_or, Nat.testBit_two_pow]
      simp [e]
  · rw [List.getElem?_eq_none (by rw [List.length_set, bvs_len]; omega), List.getElem?_eq_none (by rw [bvs_len]; omega)]
theorem undFS : Try.prog.underlying 61 = some (.array 12 5) := by kernel_rfl
theorem bvs_info (m : Nat) : (Try.prog.info? 61).map (·.size) = some (bvs m).toArray.size := by rw [bvs_size]; kernel_rfl
set_option maxHeartbeats 4000000 in
theorem has_any (m f : Nat) (hf : f < 12) (w : World) :
    Calls Try.prog 49 #[.agg (bvs m).toArray, .int .i64 (f : Int)] w fun e w' => e = .returned (.bool (m.testBit f)) ∧ Below w.heap.size w w' := by
  have F : Hid (Blk (w.alloc (.cells (bvs m).toArray 61)) w.heap.size (bvs m)) := Blk.at_ w _ _ _ rfl
  have FB : Hid (Below w.heap.size w (w.alloc (.cells (bvs m).toArray 61))) := (Below.refl _ _).alloc (Nat.le_refl _) _
  have c0 := F.out.c f _ (bvs_get hf)
  have be := bN_eq m f
  go_enter Try.func49, Try.ntmps49
  go_wp2
  go_ret
  exact ⟨rfl, FB.out⟩
/-- The whole of an array is read, or written. -/
theorem load_arr {ops : Array Oper} {rest : List Oper} {o : Oper} {act : Act} {w : World} {Q : Exit → Act → World → Prop} {b : Nat} {vs : List Value} (T : TypeId) (x : Operand) {n : Nat} {e : TypeId} (hu : Try.prog.underlying T = some (.array n e)) (hi : (Try.prog.info? T).map (·.size) = some vs.toArray.size) (hB : Blk w b vs)
    (hgd : o.guard = none) (ho : o.op = .load T x) (hx : act.eval x = .pointer (some ⟨b, 0, none⟩)) (h : wpList Try.prog ops Q rest (act.put o.dst (.agg vs.toArray)) w) : wpList Try.prog ops Q (o :: rest) act w := by
  obtain ⟨T', h'⟩ := hB.o
  exact wpList_load_row hgd T x ho b hx T' vs.toArray (0, 0) (.array n e) h' hu rfl hi h
theorem Blk.resA {fn : Func} {p : Tmp} {T : TypeId} {b : Nat} {vs : List Value} {w : World} {n : Nat} {e : TypeId} (hB : Blk w b vs) (tmps : Array Value) (h : fn.results = #[.cell p T]) (hu : Try.prog.underlying T = some (.array n e)) (hi : (Try.prog.info? T).map (·.size) = some vs.toArray.size) (hp : tmps.getD p undef = .pointer (some ⟨b, 0, none⟩)) :
    (results fn tmps).run Try.prog w = .ok (.agg vs.toArray) w := by
  obtain ⟨T', h'⟩ := hB.o
  exact results_cell_row h tmps w b T' vs.toArray (0, 0) (.array n e) hp h' hu rfl hi
theorem index_arr {T e : TypeId} {n : Nat} (hu : Try.prog.underlying T = some (.array n e)) (hs : ∀ w, (sizeOf e).run Try.prog w = .ok 1 w) (ha : ∀ w, (isAgg e).run Try.prog w = .ok false w) (vs : List Value) (i : Nat) (v : Value) (hi : i < n) (hv : vs[i]? = some v) (w : World) :
    (Instr.index T (.agg vs.toArray) (.int .i64 (i : Int))).run Try.prog w = .ok v w := by
  have hn : (0 : Int) ≤ (i : Int) ∧ (i : Int) < (n : Int) := by omega
  have hp : (part e vs.toArray i).run Try.prog w = .ok v w := by
    simp only [part, Sem.run_bind, ha, Result.andThen_ok]
    simp [hv]
  have hn2 : i < n := hi
  simp [Instr.index, run_underlying hu, asIntOf, hn2, Sem.run_bind, hs, Result.andThen_ok, hp]
theorem or_i64 {a b : Nat} (ha : a < 2 ^ 62) (hb : b < 2 ^ 62) : bits BinOp.or IntKind.i64 (a : Int) (b : Int) = ((a ||| b : Nat) : Int) := by
  have q : (BitVec.ofNat 64 a ||| BitVec.ofNat 64 b).toNat = a ||| b := by
    rw [BitVec.toNat_or, BitVec.toNat_ofNat, BitVec.toNat_ofNat, Nat.mod_eq_of_lt (by omega), Nat.mod_eq_of_lt (by omega)]
  have l : a ||| b < 2 ^ 62 := Nat.or_lt_two_pow ha hb
  generalize a ||| b = c at *
  simp [bits, IntKind.wrap, IntKind.bits, IntKind.signed]
  refine Eq.trans (congrArg (fun z : Nat => if 9223372036854775808 ≤ (z : Int) % 18446744073709551616 then (z : Int) % 18446744073709551616 - 18446744073709551616 else (z : Int) % 18446744073709551616) q) ?_
  split <;> omega
theorem and_i64 {a b : Nat} (ha : a < 2 ^ 62) (hb : b < 2 ^ 62) : bits BinOp.and IntKind.i64 (a : Int) (b : Int) = ((a &&& b : Nat) : Int) := by
  have q : (BitVec.ofNat 64 a &&& BitVec.ofNat 64 b).toNat = a &&& b := by
    rw [BitVec.toNat_and, BitVec.toNat_ofNat, BitVec.toNat_ofNat, Nat.mod_eq_of_lt (by omega), Nat.mod_eq_of_lt (by omega)]
  have l : a &&& b < 2 ^ 62 := Nat.and_lt_two_pow _ hb
  generalize a &&& b = c at *
  simp [bits, IntKind.wrap, IntKind.bits, IntKind.signed]
  refine Eq.trans (congrArg (fun z : Nat => if 9223372036854775808 ≤ (z : Int) % 18446744073709551616 then (z : Int) % 18446744073709551616 - 18446744073709551616 else (z : Int) % 18446744073709551616) q) ?_
  split <;> omega
theorem p12 {i : Nat} (h : i < 12) : 2 ^ i ≤ 2048 := by
  have := Nat.pow_le_pow_right (show 0 < 2 by decide) (show i ≤ 11 by omega)
  simpa using this
theorem p12I {i : Nat} (h : i < 12) : (2 : Int) ^ i = ((2 ^ i : Nat) : Int) ∧ (2 : Int) ^ i ≤ 2048 ∧ 1 ≤ (2 : Int) ^ i := by
  have e : (2 : Int) ^ i = ((2 ^ i : Nat) : Int) := by simp
  have := p12 h
  have := Nat.one_le_two_pow (n := i)
  rw [e]
  exact ⟨rfl, by omega, by omega⟩
theorem bN_shl (m : Nat) {i : Nat} (h : i < 12) : wrap64 (wrap64 (bN m i) * 2 ^ i) = (((if m.testBit i = true then 2 ^ i else 0 : Nat)) : Int) := by
  obtain ⟨e, e1, e2⟩ := p12I h
  unfold bN
  split
  · rw [← e]
    generalize (2 : Int) ^ i = z at *
    unfold wrap64
    omega
  · generalize (2 : Int) ^ i = z at *
    simp [wrap64]
theorem ixFS {m i : Nat} (h : i < 12) : ∀ w, (Instr.index 61 (.agg (bvs m).toArray) (.int .i64 (i : Int))).run Try.prog w = .ok (.int .u8 (bN m i)) w :=
  fun w => index_arr undFS (fun w => by rfl) (fun w => by rfl) (bvs m) i _ h (bvs_get h) w
theorem lt62 {a : Nat} (h : a < 4096) : a < 2 ^ 62 := by omega
set_option maxRecDepth 20000 in
set_option maxHeartbeats 4000000 in
theorem mask_any (m : Nat) (hm : m < 4096) (w : World) :
    Calls Try.prog 39 #[.agg (bvs m).toArray] w fun e w' => e = .returned (.int .i64 (m : Int)) ∧ Below w.heap.size w w' := by
  have F : Hid (Blk (w.alloc (.cells (bvs m).toArray 61)) w.heap.size (bvs m)) := Blk.at_ w _ _ _ rfl
  have FB : Hid (Below w.heap.size w (w.alloc (.cells (bvs m).toArray 61))) := (Below.refl _ _).alloc (Nat.le_refl _) _
  go_enter Try.func39, Try.ntmps39
  go_wp2_with (refine load_arr 61 _ undFS (bvs_info m) F.out rfl rfl rfl ?_)
  go_loopw [3, 7] (fun mm ii wr => ∃ i : Nat, ii = .int .i64 i ∧ mm = .int .i64 ((ofB (fun f => m.testBit f) i : Nat) : Int) ∧ i ≤ 12 ∧ Below w.heap.size w wr) (fun _ ii _ => 12 - (intOf ii).toNat)
  case atStart => exact ⟨0, rfl, rfl, by omega, FB.out⟩
  case round =>
    obtain ⟨i, rfl, rfl, hi, hb⟩ := hrel
    have lo : ofB (fun f => m.testBit f) i < 4096 := Nat.lt_of_lt_of_le (ofB_lt _ i) (by have := Nat.pow_le_pow_right (show 0 < 2 by decide) hi; omega)
    by_cases hlt : i < 12
    · have hix := ixFS (m := m) hlt
      have ew : bits BinOp.or IntKind.i64 ((ofB (fun f => m.testBit f) i : Nat) : Int) (wrap64 (wrap64 (bN m i) * 2 ^ i)) = ((ofB (fun f => m.testBit f) (i + 1) : Nat) : Int) := by
        rw [bN_shl m hlt, or_i64 (lt62 lo) (by have := p12 hlt; split <;> omega), ofB_succ]
      go_wp2
      refine ⟨⟨i + 1, by simp, by first | rfl | rw [ew], by omega, hb⟩, ?_⟩
      simp [intOf]
      omega
    · have e : i = 12 := by omega
      subst e
      have HM : Hid (ofB (fun f => m.testBit f) 12 = m) := ofB_self hm
      go_wp2
      go_ret
      exact ⟨congrArg (fun z : Nat => Ending.returned (.int .i64 (z : Int))) HM.out, hb⟩
theorem zero_bvs : ([.int .u8 0, .int .u8 0, .int .u8 0, .int .u8 0, .int .u8 0, .int .u8 0, .int .u8 0, .int .u8 0, .int .u8 0, .int .u8 0, .int .u8 0, .int .u8 0] : List Value) = bvs 0 := by simp [bvs, List.range_succ, bN]
theorem bvs_step {m i : Nat} (h : i < 12) : (bvs (m % 2 ^ i)).set i (.int .u8 (bN m i)) = bvs (m % 2 ^ (i + 1)) := by
  apply List.ext_getElem?
  intro j
  by_cases hj : j < 12
  · rw [bvs_get hj, List.getElem?_set]
    by_cases e : i = j
    · subst e
      rw [if_pos rfl, if_pos (by rw [bvs_len]; exact h)]
      unfold bN
      rw [Nat.testBit_mod_two_pow]
      simp
    · rw [if_neg e, bvs_get hj]
      unfold bN
      rw [Nat.testBit_mod_two_pow, Nat.testBit_mod_two_pow]
      have e2 : decide (j < i) = decide (j < i + 1) := decide_eq_decide.2 (by omega)
      rw [e2]
  · rw [List.getElem?_eq_none (by rw [List.length_set, bvs_len]; omega), List.getElem?_eq_none (by rw [bvs_len]; omega)]
theorem and_bit (m i : Nat) (hm : m < 4096) (hi : i < 12) : bits BinOp.and IntKind.i64 ((m : Int) / 2 ^ i) 1 = bN m i := by
  have e : ((m : Int) / 2 ^ i) = ((m / 2 ^ i : Nat) : Int) := by simp
  rw [e]
  refine (and_i64 (a := m / 2 ^ i) (b := 1) (by have := Nat.div_le_self m (2 ^ i); omega) (by decide)).trans ?_
  rw [Nat.and_one_is_mod]
  unfold bN
  rw [Nat.testBit_eq_decide_div_mod_eq]
  by_cases c : m / 2 ^ i % 2 = 1
  · simp [c]
  · have : m / 2 ^ i % 2 = 0 := by omega
    simp [c, this]
theorem bN_u8 (m i : Nat) : IntKind.u8.wrap (bN m i) = bN m i := by
  unfold bN
  split <;> rfl
set_option maxRecDepth 20000 in
set_option maxHeartbeats 4000000 in
theorem setOf_any (m : Nat) (hm : m < 4096) (w : World) :
    Calls Try.prog 45 #[.int .i64 (m : Int)] w fun e w' => e = .returned (.agg (bvs m).toArray) ∧ Below w.heap.size w w' := by
  obtain ⟨b0, hb0⟩ : ∃ b0, b0 = w.heap.size := ⟨_, rfl⟩
  obtain ⟨b1, hb1⟩ : ∃ b1, b1 = b0 + 1 := ⟨_, rfl⟩
  obtain ⟨W0, hW0⟩ : ∃ W0, W0 = (w.alloc (.cells #[.int .u8 0, .int .u8 0, .int .u8 0, .int .u8 0, .int .u8 0, .int .u8 0, .int .u8 0, .int .u8 0, .int .u8 0, .int .u8 0, .int .u8 0, .int .u8 0] 61)).alloc (.cells #[.int .u8 0, .int .u8 0, .int .u8 0, .int .u8 0, .int .u8 0, .int .u8 0, .int .u8 0, .int .u8 0, .int .u8 0, .int .u8 0, .int .u8 0, .int .u8 0] 61) := ⟨_, rfl⟩
  have F0 : Hid (Blk W0 b0 (bvs 0)) := by rw [hW0, ← zero_bvs]; exact (Blk.at_ w #[.int .u8 0, .int .u8 0, .int .u8 0, .int .u8 0, .int .u8 0, .int .u8 0, .int .u8 0, .int .u8 0, .int .u8 0, .int .u8 0, .int .u8 0, .int .u8 0] _ _ hb0).alloc _
  have F1 : Hid (Blk W0 b1 (bvs 0)) := by rw [hW0, ← zero_bvs]; exact Blk.at_ _ #[.int .u8 0, .int .u8 0, .int .u8 0, .int .u8 0, .int .u8 0, .int .u8 0, .int .u8 0, .int .u8 0, .int .u8 0, .int .u8 0, .int .u8 0, .int .u8 0] _ _ (by simp; omega)
  have FB : Hid (Below w.heap.size w W0) := by rw [hW0]; exact ((Below.refl _ _).alloc (Nat.le_refl _) _).alloc (by simp) _
  have leb0 : w.heap.size ≤ b0 := by omega
  have leb1 : w.heap.size ≤ b1 := by omega
  have nb : b0 ≠ b1 := by omega
  go_enter Try.func45, Try.ntmps45
  go_upto_region 2 with fail
  rw [← hb0, ← hb1, ← hW0]
  clear hb0 hb1 hW0
  go_wp2_with fail
  go_loopw [5] (fun ii wr => ∃ i : Nat, ii = .int .i64 i ∧ i ≤ 12 ∧ Blk wr b0 (bvs 0) ∧ Blk wr b1 (bvs (m % 2 ^ i)) ∧ Below w.heap.size w wr) (fun ii _ => 12 - (intOf ii).toNat)
  case atStart => exact ⟨0, rfl, by omega, F0.out, by simpa [Nat.mod_one] using F1.out, FB.out⟩
  case round =>
    obtain ⟨i, rfl, hi, h0, h1, hb⟩ := hrel
    by_cases hlt : i < 12
    · have c0 := h1.c i _ (bvs_get hlt)
      have f0 := h1.f i (by rw [bvs_len]; exact hlt)
      have ev := and_bit m i hm hlt
      have eu := bN_u8 m i
      have H1 : Hid (Blk (wr.setCell ⟨b1, i, none⟩ (.int .u8 (bN m i))) b1 (bvs (m % 2 ^ (i + 1)))) := by
        have q := h1.set (k := i) (.int .u8 (bN m i)) (by rw [bvs_len]; exact hlt)
        rw [bvs_step hlt] at q
        exact q
      go_wp2
      refine ⟨⟨i + 1, by simp, by omega, h0.other nb, H1.out, hb.setCell leb1 _⟩, ?_⟩
      simp [intOf]
      omega
    · have e : i = 12 := by omega
      subst e
      have H1 : Hid (Blk wr b1 (bvs m)) := by
        have q : m % 2 ^ 12 = m := Nat.mod_eq_of_lt hm
        rw [q] at h1
        exact h1
      go_wp2_with (first | (refine load_arr 61 _ undFS (bvs_info m) H1.out rfl rfl rfl ?_) | (refine store_blk (bvs m) 61 _ _ (bvs_info m) (by rw [bvs_size, bvs_size]) (bvs_one m) h0 rfl rfl rfl rfl ?_))
      exact bodyPost_ret (v := .agg (bvs m).toArray) ((h0.row (bvs m)).resA _ Try.results45 undFS (bvs_info m) rfl) rfl ⟨rfl, below_row hb leb0 _⟩
set_option maxHeartbeats 4000000 in
theorem floors_any (m : Nat) (w : World) :
    Calls Try.prog 65 #[.agg (bvs m).toArray] w fun e w' => e = .returned (.func (.func 79) #[] #[.pointer (some ⟨w.heap.size, 0, none⟩)]) ∧ w' = w.alloc (.cells (bvs m).toArray 61) := by
  go_enter Try.func65, Try.ntmps65
  go_wp2
  go_ret
  exact ⟨rfl, rfl⟩
/-- A guarded whole load, where its guard is open. -/
theorem load_blkgd {ops : Array Oper} {rest : List Oper} {o : Oper} {act : Act} {w : World} {Q : Exit → Act → World → Prop} {b : Nat} {vs : List Value} (T : TypeId) (x : Operand) {fs : Array Field} (hu : Try.prog.underlying T = some (.struct fs)) (hi : (Try.prog.info? T).map (·.size) = some vs.toArray.size) (hB : Blk w b vs)
    (hw : Region.wanted o (yielded ops act.tmps) = true) (ho : o.op = .load T x) (hx : act.eval x = .pointer (some ⟨b, 0, none⟩)) (h : wpList Try.prog ops Q rest (act.put o.dst (.agg vs.toArray)) w) : wpList Try.prog ops Q (o :: rest) act w := by
  obtain ⟨T', h'⟩ := hB.o
  exact wpList_step fun K hK => by simp only [hw, if_true]; exact wp_load_row T x ho b hx T' vs.toArray (0, 0) (.struct fs) h' hu rfl hi (hK _ _ h)
/-- A number that can be read. -/
structure One (w : World) (g i : Nat) (x : Int) : Prop where
  c : w.cell? ⟨g, i, none⟩ = some (.int .i64 x)
theorem One.lt {w : World} {g i : Nat} {x : Int} (a : One w g i x) : g < w.heap.size := World.block_lt_of_cell? w _ a.c
theorem One.below {W w : World} {g i B : Nat} {x : Int} (a : One W g i x) (hb : Below B W w) (hB : g < B) : One w g i x := ⟨(hb.cell (p := ⟨g, i, none⟩) hB).trans a.c⟩
theorem One.alloc {W : World} {g i : Nat} {x : Int} (a : One W g i x) (o : Obj) : One (W.alloc o) g i x := a.below ((Below.refl _ _).alloc (Nat.le_refl _) _) a.lt
theorem ret_pr {a b c d : Int} (h : a = b) (k : c = d) : Ending.returned (.agg #[.int .i64 a, .int .i64 c]) = .returned (.agg #[.int .i64 b, .int .i64 d]) := by rw [h, k]
theorem eqMaskResult_same (c v : Int) (w : World) :
    Calls Try.prog 25 #[.agg #[.int .i64 c, .int .i64 v], .agg #[.int .i64 c, .int .i64 v]] w fun e w' => e = .returned (.bool true) ∧ Below w.heap.size w w' := by
  have FB : Hid (Below w.heap.size w ((w.alloc (.cells #[.int .i64 c, .int .i64 v] 33)).alloc (.cells #[.int .i64 c, .int .i64 v] 33))) := ((Below.refl _ _).alloc (Nat.le_refl _) _).alloc (by simp) _
  go_enter Try.func25, Try.ntmps25
  go_wp2
  go_ret
  exact ⟨rfl, FB.out⟩
end Go.Proofs.Ytnpnlckdggakmaa
