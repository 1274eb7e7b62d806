/-
  Nobody is lost or doubled, and no car has more than its load.
-/
import Derived.Test.YtoekhkolakielaaPeoC
import Derived.Test.YtoekhkolakielaaPeoD
import Derived.Test.YtoekhkolakielaaAt
import Derived.Deep.DeepCutAuto
import Derived.Deep.MidRow
import Derived.BigGuardPart
namespace Go.Proofs.Ytoekhkolakielaa
open Go.RowKit Pl
set_option linter.unusedSimpArgs false
set_option linter.unusedVariables false

theorem row_none {w : World} {a : Option Addr} {len cap : Nat} {zs : List Int} (h : codeRow w a len cap zs) : a = none → len = 0 ∧ cap = 0 := by
  intro e
  rcases h with ⟨_, q1, q2, _⟩ | ⟨x, q, _⟩
  · exact ⟨q1, q2⟩
  · rw [q] at e
    cases e
theorem Blk.mid {w : World} {b : Nat} {vs : List Value} (hB : Blk w b vs) (o : Nat) (cs : List Value) (h : (vs.drop o).take cs.length = cs) : w.rangeAt b o cs := by
  intro j v hv
  have e : (vs.drop o)[j]? = some v := by
    rw [← h] at hv
    rw [List.getElem?_take] at hv
    split at hv
    · exact hv
    · cases hv
  rw [List.getElem?_drop] at e
  exact hB.c (o + j) v e
theorem load_mid {ops : Array Oper} {rest : List Oper} {op : Oper} {a : Act} {w : World} {Q : Exit → Act → World → Prop} {b : Nat} {vs : List Value} (T : TypeId) (x : Operand) (o : Nat) (cs : List Value) {fs : Array Field} (hu : Try.prog.underlying T = some (.struct fs)) (hi : (Try.prog.info? T).map (·.size) = some cs.length) (hB : Blk w b vs) (hc : (vs.drop o).take cs.length = cs)
    (hgd : op.guard = none) (ho : op.op = .load T x) (hx : a.eval x = .pointer (some ⟨b, o, none⟩)) (h : wpList Try.prog ops Q rest (a.put op.dst (.agg cs.toArray)) w) : wpList Try.prog ops Q (op :: rest) a w :=
  wpList_load_mid hgd T x ho b o hx cs (.struct fs) (hB.mid o cs hc) hu rfl hi h
theorem exec_load_mid {op : Oper} {a : Act} {w : World} {b : Nat} {vs : List Value} (T : TypeId) (x : Operand) (o : Nat) (cs : List Value) {fs : Array Field} (hu : Try.prog.underlying T = some (.struct fs)) (hi : (Try.prog.info? T).map (·.size) = some cs.length) (hc : (vs.drop o).take cs.length = cs)
    (ho : op.op = .load T x) (hx : a.eval x = .pointer (some ⟨b, o, none⟩)) (hB : Blk w b vs) : (execOp a.eval op).run Try.prog w = .ok (.value (.agg cs.toArray)) w := by
  unfold execOp
  simp only [ho, hx, Instr.loadAt, Instr.sureAddr, Sem.run_bind, Sem.run_pure, Result.andThen_ok, run_loadVar_mid w b o T cs (.struct fs) (hB.mid o cs hc) hu rfl hi]
theorem load_midP {ops : Array Oper} {rest : List Oper} {op : Oper} {a : Act} {w : World} {Q : Exit → Act → World → Prop} {b : Nat} {vs : List Value} (T : TypeId) (x : Operand) (o : Nat) (cs : List Value) {fs : Array Field} (hu : Try.prog.underlying T = some (.struct fs)) (hi : (Try.prog.info? T).map (·.size) = some cs.length) (hB : Blk w b vs) (hc : (vs.drop o).take cs.length = cs)
    (hgd : Region.wanted op (yielded ops a.tmps) = true) (ho : op.op = .load T x) (hx : a.eval x = .pointer (some ⟨b, o, none⟩)) (h : wpList Try.prog ops Q rest (a.put op.dst (.agg cs.toArray)) w) : wpList Try.prog ops Q (op :: rest) a w :=
  wpList_step fun K hK => by simp only [hgd, if_true]; exact wp_load_mid T x ho b o hx cs (.struct fs) (hB.mid o cs hc) hu rfl hi (hK _ _ h)
theorem load_blkP {ops : Array Oper} {rest : List Oper} {o : Oper} {act : Act} {w : World} {Q : Exit → Act → World → Prop} {b : Nat} {vs : List Value} (T : TypeId) (x : Operand) {fs : Array Field} (hu : Try.prog.underlying T = some (.struct fs)) (hi : (Try.prog.info? T).map (·.size) = some vs.toArray.size) (hB : Blk w b vs)
    (hgd : Region.wanted o (yielded ops act.tmps) = true) (ho : o.op = .load T x) (hx : act.eval x = .pointer (some ⟨b, 0, none⟩)) (h : wpList Try.prog ops Q rest (act.put o.dst (.agg vs.toArray)) w) : wpList Try.prog ops Q (o :: rest) act w := by
  obtain ⟨T', h'⟩ := hB.o
  exact wpList_step fun K hK => by simp only [hgd, if_true]; exact wp_load_row T x ho b hx T' vs.toArray (0, 0) (.struct fs) h' hu rfl hi (hK _ _ h)
theorem Own.pinP {w : World} {B n cap : Nat} {a : Option Addr} {l : List Pe} (h : Own w B (.slice a n cap) l) : PIn w w.heap.size a l := by
  obtain ⟨a2, c2, e, hp⟩ := h.pin
  injection e with q1 q2 q3
  rw [q1]
  exact hp
theorem fieldP1 (k : Int) (a : Option Addr) (n c : Nat) (w : World) : (Instr.field 38 (.agg #[.int .i64 k, .slice a n c]) 1).run Try.prog w = .ok (.slice a n c) w := by kernel_rfl
theorem fieldQ0 (k i n : Int) (v : Value) (w : World) : (Instr.field 32 (.agg #[.int .i64 k, .int .i64 i, .int .i64 n, v]) 0).run Try.prog w = .ok (.int .i64 k) w := by kernel_rfl
theorem led_callN {nx : Int} {m : List Pe} {n : Nat} {f : FuncId} {vs : Array Value} {w : World} {k : Int} {y : Lg} (hc : Calls Try.prog f vs w (isLed w k 0 y.nx y.ps)) (hk : k = 0) (hy : y = ⟨nx, m⟩) (hn : m.length = n) :
    Calls Try.prog f vs w fun e w' => ∃ a2 c2, e = .returned (.agg #[.int .i64 0, .int .i64 0, .int .i64 nx, .slice a2 n c2]) ∧ Own w' w.heap.size (.slice a2 n c2) m ∧ Below w.heap.size w w' := by
  subst hk hy hn
  refine hc.mono ?_
  rintro e w' ⟨v, rfl, ho2, hb⟩
  obtain ⟨a3, c3, rfl, -⟩ := ho2.pin
  exact ⟨a3, c3, rfl, ho2, hb⟩
theorem led_callZ {f : FuncId} {vs : Array Value} {w : World} {k : Int} {y : Lg} (hc : Calls Try.prog f vs w (isLed w k 0 y.nx y.ps)) (hy : y = ⟨0, []⟩) :
    Calls Try.prog f vs w fun e w' => ∃ a2 c2, e = .returned (.agg #[.int .i64 k, .int .i64 0, .int .i64 0, .slice a2 0 c2]) ∧ Below w.heap.size w w' := by
  subst hy
  refine hc.mono ?_
  rintro e w' ⟨v, rfl, ho2, hb⟩
  obtain ⟨a3, c3, rfl, -⟩ := ho2.pin
  exact ⟨a3, c3, rfl, hb⟩
/-- A ledger in a list of ledgers. -/
structure LEl (w : World) (g o : Nat) (nx : Int) (v : Value) : Prop where
  c0 : w.cell? ⟨g, o, none⟩ = some (.int .i64 nx)
  c1 : w.cell? ⟨g, o + 1, none⟩ = some v
theorem LEl.lt {w : World} {g o : Nat} {nx : Int} {v : Value} (a : LEl w g o nx v) : g < w.heap.size := World.block_lt_of_cell? w _ a.c0
theorem LEl.below {W w : World} {g o B : Nat} {nx : Int} {v : Value} (a : LEl W g o nx v) (hb : Below B W w) (hB : g < B) : LEl w g o nx v := ⟨(hb.cell (p := ⟨g, o, none⟩) hB).trans a.c0, (hb.cell (p := ⟨g, o + 1, none⟩) hB).trans a.c1⟩
set_option maxRecDepth 20000 in
set_option maxHeartbeats 32000000 in
theorem people_walk (a0 : Option Addr) (len0 cap0 : Nat) (w : World) (hc : CodeIn w w.heap.size a0 len0) (hbig : len0 ≤ 1048576) (hz : a0 = none → len0 = 0 ∧ cap0 = 0) :
    Calls Try.prog 3 #[.slice a0 len0 cap0] w fun e w' => e = .returned (.bool true) ∧ Below w.heap.size w w' := by
  have HC : Hid (CodeIn w w.heap.size a0 len0) := hc
  clear hc
  go_enter Try.func3, Try.ntmps3
  go_wp2_with (first | (go_at_call 4; refine (lwBig_no _ _ _ hbig _).mono ?_; rintro e w' ⟨rfl, hw⟩; obtain rfl := hw.symm; clear hw))
  refine (DrawBoardAt_any a0 len0 cap0 _ HC.out hbig hz).mono ?_
  rintro e w1 ⟨h, nx, ra, rc, l, x, y, z, rfl, ho, hl60, hb⟩
  obtain ⟨n, hn⟩ : ∃ n, l.length = n := ⟨_, rfl⟩
  rw [hn] at ho hl60 ⊢
  have HN : Hid (l.length = n) := hn
  clear HC hbig hz hn
  go_upto_region 4 with fail
  have hsz := hb.size
  obtain ⟨w2, hw2⟩ : ∃ w2, w2 = (w1.alloc (.cells #[.int .i64 h.fl, .int .i64 h.gp, .int .i64 h.ln, .int .i64 h.rf, .int .i64 h.sp, .int .i64 h.pu, .int .i64 h.br, .int .i64 h.dr, .int .i64 h.lv, .int .i64 h.dO, .int .i64 h.ld, .int .i64 h.qu] 25)).alloc (.cells #[.int .i64 nx, .slice ra n rc] 28) := ⟨_, rfl⟩
  obtain ⟨b1, hb1⟩ : ∃ b1, b1 = w1.heap.size := ⟨_, rfl⟩
  obtain ⟨b2, hb2⟩ : ∃ b2, b2 = w1.heap.size + 1 := ⟨_, rfl⟩
  have l12 : b1 < b2 := by omega
  have lw1 : w.heap.size ≤ b1 := by omega
  have F0 : Hid (Blk w2 b1 [.int .i64 h.fl, .int .i64 h.gp, .int .i64 h.ln, .int .i64 h.rf, .int .i64 h.sp, .int .i64 h.pu, .int .i64 h.br, .int .i64 h.dr, .int .i64 h.lv, .int .i64 h.dO, .int .i64 h.ld, .int .i64 h.qu]) := by rw [hw2]; exact (Blk.at_ w1 #[.int .i64 h.fl, .int .i64 h.gp, .int .i64 h.ln, .int .i64 h.rf, .int .i64 h.sp, .int .i64 h.pu, .int .i64 h.br, .int .i64 h.dr, .int .i64 h.lv, .int .i64 h.dO, .int .i64 h.ld, .int .i64 h.qu] _ _ hb1).alloc _
  have F1 : Hid (Blk w2 b2 [.int .i64 nx, .slice ra n rc]) := by rw [hw2]; exact Blk.at_ _ #[.int .i64 nx, .slice ra n rc] _ _ (by simp [hb2])
  have FO : Hid (Own w2 w.heap.size (.slice ra n rc) l) := by rw [hw2]; exact (ho.alloc _).alloc _
  have FB : Hid (Below w.heap.size w w2) := by rw [hw2]; exact (hb.alloc hb.size _).alloc (by simp; omega) _
  rw [← hw2, ← hb2, ← hb1]
  clear hw2 hb1 hb2 hb hsz ho
  by_cases hk : Hs.askd h ⟨nx, l⟩ x y z = 0
  case neg =>
    obtain ⟨kz, hK⟩ : ∃ kz, Hs.askd h ⟨nx, l⟩ x y z = kz := ⟨_, rfl⟩
    have CI : ∀ W, PIn W W.heap.size ra l → Calls Try.prog 6 #[.agg #[.int .i64 h.fl, .int .i64 h.gp, .int .i64 h.ln, .int .i64 h.rf, .int .i64 h.sp, .int .i64 h.pu, .int .i64 h.br, .int .i64 h.dr, .int .i64 h.lv, .int .i64 h.dO, .int .i64 h.ld, .int .i64 h.qu], .agg #[.int .i64 nx, .slice ra n rc], .int .i64 x, .int .i64 y, .int .i64 z] W fun e w' => ∃ a2 c2, e = .returned (.agg #[.int .i64 kz, .int .i64 0, .int .i64 0, .slice a2 0 c2]) ∧ Below W.heap.size W w' := fun W hW => by
      have hn := HN.out
      subst hn hK
      exact led_callZ (implBoardAt_pin h ⟨nx, l⟩ x y z ra rc (by show l.length ≤ _; omega) W hW) (if_neg hk)
    have CS : ∀ W, PIn W W.heap.size ra l → Calls Try.prog 7 #[.agg #[.int .i64 h.fl, .int .i64 h.gp, .int .i64 h.ln, .int .i64 h.rf, .int .i64 h.sp, .int .i64 h.pu, .int .i64 h.br, .int .i64 h.dr, .int .i64 h.lv, .int .i64 h.dO, .int .i64 h.ld, .int .i64 h.qu], .agg #[.int .i64 nx, .slice ra n rc], .int .i64 x, .int .i64 y, .int .i64 z] W fun e w' => ∃ a2 c2, e = .returned (.agg #[.int .i64 kz, .int .i64 0, .int .i64 0, .slice a2 0 c2]) ∧ Below W.heap.size W w' := fun W hW => by
      have hn := HN.out
      subst hn hK
      exact led_callZ (specBoard_no h ⟨nx, l⟩ x y z ra rc (by show l.length ≤ _; omega) hk W hW) (if_neg hk)
    rw [hK] at hk
    have hn : (kz != 0) = true := by simpa using hk
    have hee : (kz == kz) = true := by simp
    clear hk hK
    go_upto_region 5 with (first | (refine load_blk 25 _ Try.underlying25 (by kernel_rfl) F0.out rfl rfl rfl ?_) | (refine load_blk 28 _ Try.underlying28 (by kernel_rfl) F1.out rfl rfl rfl ?_) | (go_at_call 6; refine (CI _ FO.out.pinP).mono ?_; rintro e w3 ⟨a2, c2, rfl, hb⟩; have FO : Hid (Own w3 w.heap.size (.slice ra n rc) l) := FO.out.below hb (fun k hk => (FO.out.lt k hk).2); have F0 : Hid (Blk w3 b1 [.int .i64 h.fl, .int .i64 h.gp, .int .i64 h.ln, .int .i64 h.rf, .int .i64 h.sp, .int .i64 h.pu, .int .i64 h.br, .int .i64 h.dr, .int .i64 h.lv, .int .i64 h.dO, .int .i64 h.ld, .int .i64 h.qu]) := F0.out.below hb F0.out.lt; have F1 : Hid (Blk w3 b2 [.int .i64 nx, .slice ra n rc]) := F1.out.below hb F1.out.lt; have FB : Hid (Below w.heap.size w w3) := FB.out.trans (hb.mono FB.out.size); clear hb) | (refine store_new [.int .i64 kz, .int .i64 0, .int .i64 0, .slice a2 0 c2] 32 _ _ (by kernel_rfl) (by kernel_rfl) (by kernel_rfl) rfl rfl rfl rfl ?_))
    have FB0 := FB
    obtain ⟨b3, hbb⟩ : ∃ b3, b3 = w3.heap.size := ⟨_, rfl⟩
    obtain ⟨w4, hw2⟩ : ∃ w4, w4 = w3.alloc (.cells #[.int .i64 kz, .int .i64 0, .int .i64 0, .slice a2 0 c2] 32) := ⟨_, rfl⟩
    have nb3b1 : b1 < b3 := by rw [hbb]; exact F0.out.lt
    have nb3b2 : b2 < b3 := by rw [hbb]; exact F1.out.lt
    have F0 : Hid (Blk w4 b1 [.int .i64 h.fl, .int .i64 h.gp, .int .i64 h.ln, .int .i64 h.rf, .int .i64 h.sp, .int .i64 h.pu, .int .i64 h.br, .int .i64 h.dr, .int .i64 h.lv, .int .i64 h.dO, .int .i64 h.ld, .int .i64 h.qu]) := by rw [hw2]; exact F0.out.alloc _
    have F1 : Hid (Blk w4 b2 [.int .i64 nx, .slice ra n rc]) := by rw [hw2]; exact F1.out.alloc _
    have F3 : Hid (Blk w4 b3 [.int .i64 kz, .int .i64 0, .int .i64 0, .slice a2 0 c2]) := by rw [hw2]; exact Blk.at_ w3 #[.int .i64 kz, .int .i64 0, .int .i64 0, .slice a2 0 c2] _ _ hbb
    have FO : Hid (Own w4 w.heap.size (.slice ra n rc) l) := by rw [hw2]; exact FO.out.alloc _
    have FB : Hid (Below w.heap.size w w4) := by rw [hw2]; exact FB.out.alloc FB.out.size _
    have leb3 : w.heap.size ≤ b3 := by rw [hbb]; exact FB0.out.size
    (try simp only [Act.put])
    rw [← hw2, ← hbb]
    clear hbb hw2 FB0
    have z0 := F3.out.c 0 _ rfl
    have fi := fieldQ0
    go_upto_region 6 with fail
    clear z0
    have F0 : Hid (Blk w4.drew b1 [.int .i64 h.fl, .int .i64 h.gp, .int .i64 h.ln, .int .i64 h.rf, .int .i64 h.sp, .int .i64 h.pu, .int .i64 h.br, .int .i64 h.dr, .int .i64 h.lv, .int .i64 h.dO, .int .i64 h.ld, .int .i64 h.qu]) := F0.out.below (Below.refl _ _).drew F0.out.lt
    have F1 : Hid (Blk w4.drew b2 [.int .i64 nx, .slice ra n rc]) := F1.out.below (Below.refl _ _).drew F1.out.lt
    have F3 : Hid (Blk w4.drew b3 [.int .i64 kz, .int .i64 0, .int .i64 0, .slice a2 0 c2]) := F3.out.below (Below.refl _ _).drew F3.out.lt
    have FB : Hid (Below w.heap.size w w4.drew) := FB.out.drew
    have FO : Hid (Own w4.drew w.heap.size (.slice ra n rc) l) := FO.out.drew
    refine wp_region_held_drew (S := (fun w'' => Blk w'' b1 ([.int .i64 h.fl, .int .i64 h.gp, .int .i64 h.ln, .int .i64 h.rf, .int .i64 h.sp, .int .i64 h.pu, .int .i64 h.br, .int .i64 h.dr, .int .i64 h.lv, .int .i64 h.dO, .int .i64 h.ld, .int .i64 h.qu]) ∧ Blk w'' b2 ([.int .i64 nx, .slice ra n rc]) ∧ Blk w'' b3 ([.int .i64 kz, .int .i64 0, .int .i64 0, .slice a2 0 c2]))) (by kernel_rfl) (by (try dsimp only); first | exact ⟨F0.out, F1.out, F3.out⟩ | go_keep) (fun hHeld => ?_)
    obtain ⟨v_1, hw1⟩ : ∃ v_1, v_1 = w4.drew := ⟨_, rfl⟩
    have F0 : Hid (Blk v_1 b1 [.int .i64 h.fl, .int .i64 h.gp, .int .i64 h.ln, .int .i64 h.rf, .int .i64 h.sp, .int .i64 h.pu, .int .i64 h.br, .int .i64 h.dr, .int .i64 h.lv, .int .i64 h.dO, .int .i64 h.ld, .int .i64 h.qu]) := by rw [hw1]; exact F0.out
    have F1 : Hid (Blk v_1 b2 [.int .i64 nx, .slice ra n rc]) := by rw [hw1]; exact F1.out
    have F3 : Hid (Blk v_1 b3 [.int .i64 kz, .int .i64 0, .int .i64 0, .slice a2 0 c2]) := by rw [hw1]; exact F3.out
    have FB : Hid (Below w.heap.size w v_1) := by rw [hw1]; exact FB.out
    have FO : Hid (Own v_1 w.heap.size (.slice ra n rc) l) := by rw [hw1]; exact FO.out
    rw [← hw1] at hHeld ⊢
    clear hw1
    refine tkz 0 rfl ?_ (hy := Or.inl ⟨by kernel_rfl, fun wx hSw => exec_load_blk 25 _ Try.underlying25 (by kernel_rfl) rfl rfl hSw.1⟩)
    refine tkz 1 rfl ?_ (hy := Or.inl ⟨by kernel_rfl, fun wx hSw => exec_load_blk 28 _ Try.underlying28 (by kernel_rfl) rfl rfl hSw.2.1⟩)
    refine tkz 2 rfl ?_
    refine tkz 3 rfl ?_
    refine tkz 4 rfl ?_
    refine tkz 7 rfl ?_
    refine tkz 8 rfl ?_ (hy := Or.inl ⟨by kernel_rfl, by (intro wx hSw; have hq2_0 := hSw.2.2.c 0 _ rfl; (try dsimp only at hSw); go_simp <;> with_reducible rfl)⟩)
    refine wpAnyH_ready (rs := [5]) (by kernel_rfl) (by simp) ?_
    refine (AllReadyH.cons rfl (fun K hK => ?_) AllReadyH.nil)
    go_simp
    refine (CS _ FO.out.pinP).mono ?_
    rintro e v_2 ⟨a3, c3, rfl, hb⟩
    have F0 : Hid (Blk v_2 b1 [.int .i64 h.fl, .int .i64 h.gp, .int .i64 h.ln, .int .i64 h.rf, .int .i64 h.sp, .int .i64 h.pu, .int .i64 h.br, .int .i64 h.dr, .int .i64 h.lv, .int .i64 h.dO, .int .i64 h.ld, .int .i64 h.qu]) := F0.out.below hb F0.out.lt
    have F1 : Hid (Blk v_2 b2 [.int .i64 nx, .slice ra n rc]) := F1.out.below hb F1.out.lt
    have F3 : Hid (Blk v_2 b3 [.int .i64 kz, .int .i64 0, .int .i64 0, .slice a2 0 c2]) := F3.out.below hb F3.out.lt
    have FB : Hid (Below w.heap.size w v_2) := FB.out.trans (hb.mono FB.out.size)
    have FO : Hid (Own v_2 w.heap.size (.slice ra n rc) l) := FO.out.below hb (fun k hk => (FO.out.lt k hk).2)
    clear hb
    try dsimp only
    refine hK.out _ _ (by (try dsimp only); first | exact ⟨F0.out, F1.out, F3.out⟩ | go_keep) (fun hHeld => ?_)
    clear hK K
    try simp only [Act.put, List.getElem_toArray, List.getElem_cons_succ, List.getElem_cons_zero, List.setIfInBounds_toArray, List.set_cons_zero, List.set_cons_succ]
    refine tkz 6 rfl ?_
    refine tkz 9 rfl ?_
    refine tkz 10 rfl ?_
    refine wpAnyH_done (by kernel_rfl) ?_ _
    go_wp2
    go_ret
    exact ⟨by first | rfl | simp, FB.out⟩
  case pos =>
  have hpe := people_ok hk
  obtain ⟨mb, hmb⟩ : ∃ mb, boardS h.ld x y z l l.length = mb := ⟨_, rfl⟩
  obtain ⟨ma, hma⟩ : ∃ ma, mb.map (alightP x y z) = ma := ⟨_, rfl⟩
  obtain ⟨mo, hmo⟩ : ∃ mo, ma.map (outP x y z) = mo := ⟨_, rfl⟩
  have eB : Hs.boardV h ⟨nx, l⟩ x y z = ⟨nx, mb⟩ := by rw [← hmb]; exact if_pos hk
  rw [hmb, hma, hmo, HN.out] at hpe
  obtain ⟨pb, pa, po, hsame⟩ := hpe
  have eA : Hs.alightV h ⟨nx, mb⟩ x y z = ⟨nx, ma⟩ := by rw [← hma]; exact if_pos pb.ask
  have eO : Hs.outV h ⟨nx, ma⟩ x y z = ⟨nx, mo⟩ := by rw [← hmo]; exact if_pos pa.ask
  have hnone : (riders x y mo).length = 0 := by rw [← hmo, out_none]; rfl
  have CB : ∀ (a1 : Option Addr) (c1 : Nat) (W : World), PIn W W.heap.size a1 l → Calls Try.prog 6 #[.agg #[.int .i64 h.fl, .int .i64 h.gp, .int .i64 h.ln, .int .i64 h.rf, .int .i64 h.sp, .int .i64 h.pu, .int .i64 h.br, .int .i64 h.dr, .int .i64 h.lv, .int .i64 h.dO, .int .i64 h.ld, .int .i64 h.qu], .agg #[.int .i64 nx, .slice a1 n c1], .int .i64 x, .int .i64 y, .int .i64 z] W fun e w' => ∃ a2 c2, e = .returned (.agg #[.int .i64 0, .int .i64 0, .int .i64 nx, .slice a2 n c2]) ∧ Own w' W.heap.size (.slice a2 n c2) mb ∧ Below W.heap.size W w' := fun a1 c1 W hW => by
    have hs : l.length = n := HN.out
    have hd : mb.length = n := pb.len
    subst hs
    exact led_callN (implBoardAt_pin h ⟨nx, l⟩ x y z a1 c1 (by show l.length ≤ _; omega) W hW) hk eB hd
  have CA : ∀ (a1 : Option Addr) (c1 : Nat) (W : World), PIn W W.heap.size a1 mb → Calls Try.prog 8 #[.agg #[.int .i64 h.fl, .int .i64 h.gp, .int .i64 h.ln, .int .i64 h.rf, .int .i64 h.sp, .int .i64 h.pu, .int .i64 h.br, .int .i64 h.dr, .int .i64 h.lv, .int .i64 h.dO, .int .i64 h.ld, .int .i64 h.qu], .agg #[.int .i64 nx, .slice a1 n c1], .int .i64 x, .int .i64 y, .int .i64 z] W fun e w' => ∃ a2 c2, e = .returned (.agg #[.int .i64 0, .int .i64 0, .int .i64 nx, .slice a2 n c2]) ∧ Own w' W.heap.size (.slice a2 n c2) ma ∧ Below W.heap.size W w' := fun a1 c1 W hW => by
    have hs : mb.length = n := pb.len
    have hd : ma.length = n := pa.len
    subst hs
    exact led_callN (implAlightAt_pin h ⟨nx, mb⟩ x y z a1 c1 (by show mb.length ≤ _; omega) W hW) pb.ask eA hd
  have CO : ∀ (a1 : Option Addr) (c1 : Nat) (W : World), PIn W W.heap.size a1 ma → Calls Try.prog 9 #[.agg #[.int .i64 h.fl, .int .i64 h.gp, .int .i64 h.ln, .int .i64 h.rf, .int .i64 h.sp, .int .i64 h.pu, .int .i64 h.br, .int .i64 h.dr, .int .i64 h.lv, .int .i64 h.dO, .int .i64 h.ld, .int .i64 h.qu], .agg #[.int .i64 nx, .slice a1 n c1], .int .i64 x, .int .i64 y, .int .i64 z] W fun e w' => ∃ a2 c2, e = .returned (.agg #[.int .i64 0, .int .i64 0, .int .i64 nx, .slice a2 n c2]) ∧ Own w' W.heap.size (.slice a2 n c2) mo ∧ Below W.heap.size W w' := fun a1 c1 W hW => by
    have hs : ma.length = n := pa.len
    have hd : mo.length = n := po.len
    subst hs
    exact led_callN (implLetOut_pin h ⟨nx, ma⟩ x y z a1 c1 (by show ma.length ≤ _; omega) W hW) pa.ask eO hd
  have PB : Hid (Pk h nx x y z n mb) := pb
  have PA : Hid (Pk h nx x y z n ma) := pa
  have PO : Hid (Pk h nx x y z n mo) := po
  have HS : Hid (∀ (i : Nat) p, l[i]? = some p → ∃ q, ma[i]? = some q ∧ q.id = p.id ∧ q.fr = p.fr ∧ q.tw = p.tw ∧ (q.st = 2 → q.pl = q.tw)) := hsame
  have HNO : Hid ((riders x y mo).length = 0) := hnone
  clear hmb hma hmo eB eA eO pb pa po hsame hnone hk
  go_upto_region 5 with (first | (refine load_blk 25 _ Try.underlying25 (by kernel_rfl) F0.out rfl rfl rfl ?_) | (refine load_blk 28 _ Try.underlying28 (by kernel_rfl) F1.out rfl rfl rfl ?_) | (go_at_call 6; refine (CB _ _ _ FO.out.pinP).mono ?_; rintro e w3 ⟨ab, cb, rfl, ho, hb⟩; have FMb : Hid (Own w3 w.heap.size (.slice ab n cb) mb) := ho.base FB.out.size; have FO : Hid (Own w3 w.heap.size (.slice ra n rc) l) := FO.out.below hb (fun k hk => (FO.out.lt k hk).2); have F0 : Hid (Blk w3 b1 [.int .i64 h.fl, .int .i64 h.gp, .int .i64 h.ln, .int .i64 h.rf, .int .i64 h.sp, .int .i64 h.pu, .int .i64 h.br, .int .i64 h.dr, .int .i64 h.lv, .int .i64 h.dO, .int .i64 h.ld, .int .i64 h.qu]) := F0.out.below hb F0.out.lt; have F1 : Hid (Blk w3 b2 [.int .i64 nx, .slice ra n rc]) := F1.out.below hb F1.out.lt; have FB : Hid (Below w.heap.size w w3) := FB.out.trans (hb.mono FB.out.size); clear hb; clear ho) | (refine store_new [.int .i64 0, .int .i64 0, .int .i64 nx, .slice ab n cb] 32 _ _ (by kernel_rfl) (by kernel_rfl) (by kernel_rfl) rfl rfl rfl rfl ?_))
  have FB0 := FB
  obtain ⟨b3, hbb⟩ : ∃ b3, b3 = w3.heap.size := ⟨_, rfl⟩
  obtain ⟨w4, hw2⟩ : ∃ w4, w4 = w3.alloc (.cells #[.int .i64 0, .int .i64 0, .int .i64 nx, .slice ab n cb] 32) := ⟨_, rfl⟩
  have nb3b1 : b1 < b3 := by rw [hbb]; exact F0.out.lt
  have nb3b2 : b2 < b3 := by rw [hbb]; exact F1.out.lt
  have F0 : Hid (Blk w4 b1 [.int .i64 h.fl, .int .i64 h.gp, .int .i64 h.ln, .int .i64 h.rf, .int .i64 h.sp, .int .i64 h.pu, .int .i64 h.br, .int .i64 h.dr, .int .i64 h.lv, .int .i64 h.dO, .int .i64 h.ld, .int .i64 h.qu]) := by rw [hw2]; exact F0.out.alloc _
  have F1 : Hid (Blk w4 b2 [.int .i64 nx, .slice ra n rc]) := by rw [hw2]; exact F1.out.alloc _
  have F3 : Hid (Blk w4 b3 [.int .i64 0, .int .i64 0, .int .i64 nx, .slice ab n cb]) := by rw [hw2]; exact Blk.at_ w3 #[.int .i64 0, .int .i64 0, .int .i64 nx, .slice ab n cb] _ _ hbb
  have FO : Hid (Own w4 w.heap.size (.slice ra n rc) l) := by rw [hw2]; exact FO.out.alloc _
  have FMb : Hid (Own w4 w.heap.size (.slice ab n cb) mb) := by rw [hw2]; exact FMb.out.alloc _
  have FB : Hid (Below w.heap.size w w4) := by rw [hw2]; exact FB.out.alloc FB.out.size _
  have leb3 : w.heap.size ≤ b3 := by rw [hbb]; exact FB0.out.size
  (try simp only [Act.put])
  rw [← hw2, ← hbb]
  clear hbb hw2 FB0
  have z0 := F3.out.c 0 _ rfl
  go_upto_region 7 with fail
  clear z0 CB
  go_upto_region 8 with (first | (refine load_blk 25 _ Try.underlying25 (by kernel_rfl) F0.out rfl rfl rfl ?_) | (refine load_mid 28 _ 2 [.int .i64 nx, .slice ab n cb] Try.underlying28 (by kernel_rfl) F3.out rfl rfl rfl rfl ?_) | (go_at_call 8; refine (CA _ _ _ FMb.out.pinP).mono ?_; rintro e w5 ⟨aa, ca, rfl, ho, hb⟩; have FMa : Hid (Own w5 w.heap.size (.slice aa n ca) ma) := ho.base FB.out.size; have FO : Hid (Own w5 w.heap.size (.slice ra n rc) l) := FO.out.below hb (fun k hk => (FO.out.lt k hk).2); have FMb : Hid (Own w5 w.heap.size (.slice ab n cb) mb) := FMb.out.below hb (fun k hk => (FMb.out.lt k hk).2); have F0 : Hid (Blk w5 b1 [.int .i64 h.fl, .int .i64 h.gp, .int .i64 h.ln, .int .i64 h.rf, .int .i64 h.sp, .int .i64 h.pu, .int .i64 h.br, .int .i64 h.dr, .int .i64 h.lv, .int .i64 h.dO, .int .i64 h.ld, .int .i64 h.qu]) := F0.out.below hb F0.out.lt; have F1 : Hid (Blk w5 b2 [.int .i64 nx, .slice ra n rc]) := F1.out.below hb F1.out.lt; have F3 : Hid (Blk w5 b3 [.int .i64 0, .int .i64 0, .int .i64 nx, .slice ab n cb]) := F3.out.below hb F3.out.lt; have FB : Hid (Below w.heap.size w w5) := FB.out.trans (hb.mono FB.out.size); clear hb; clear ho) | (refine store_new [.int .i64 0, .int .i64 0, .int .i64 nx, .slice aa n ca] 32 _ _ (by kernel_rfl) (by kernel_rfl) (by kernel_rfl) rfl rfl rfl rfl ?_))
  have FB0 := FB
  obtain ⟨b4, hbb⟩ : ∃ b4, b4 = w5.heap.size := ⟨_, rfl⟩
  obtain ⟨w6, hw2⟩ : ∃ w6, w6 = w5.alloc (.cells #[.int .i64 0, .int .i64 0, .int .i64 nx, .slice aa n ca] 32) := ⟨_, rfl⟩
  have nb4b1 : b1 < b4 := by rw [hbb]; exact F0.out.lt
  have nb4b2 : b2 < b4 := by rw [hbb]; exact F1.out.lt
  have nb4b3 : b3 < b4 := by rw [hbb]; exact F3.out.lt
  have F0 : Hid (Blk w6 b1 [.int .i64 h.fl, .int .i64 h.gp, .int .i64 h.ln, .int .i64 h.rf, .int .i64 h.sp, .int .i64 h.pu, .int .i64 h.br, .int .i64 h.dr, .int .i64 h.lv, .int .i64 h.dO, .int .i64 h.ld, .int .i64 h.qu]) := by rw [hw2]; exact F0.out.alloc _
  have F1 : Hid (Blk w6 b2 [.int .i64 nx, .slice ra n rc]) := by rw [hw2]; exact F1.out.alloc _
  have F3 : Hid (Blk w6 b3 [.int .i64 0, .int .i64 0, .int .i64 nx, .slice ab n cb]) := by rw [hw2]; exact F3.out.alloc _
  have F4 : Hid (Blk w6 b4 [.int .i64 0, .int .i64 0, .int .i64 nx, .slice aa n ca]) := by rw [hw2]; exact Blk.at_ w5 #[.int .i64 0, .int .i64 0, .int .i64 nx, .slice aa n ca] _ _ hbb
  have FO : Hid (Own w6 w.heap.size (.slice ra n rc) l) := by rw [hw2]; exact FO.out.alloc _
  have FMb : Hid (Own w6 w.heap.size (.slice ab n cb) mb) := by rw [hw2]; exact FMb.out.alloc _
  have FMa : Hid (Own w6 w.heap.size (.slice aa n ca) ma) := by rw [hw2]; exact FMa.out.alloc _
  have FB : Hid (Below w.heap.size w w6) := by rw [hw2]; exact FB.out.alloc FB.out.size _
  have leb4 : w.heap.size ≤ b4 := by rw [hbb]; exact FB0.out.size
  (try simp only [Act.put])
  rw [← hw2, ← hbb]
  clear hbb hw2 FB0
  clear CA
  go_upto_region 9 with (first | (refine load_blk 25 _ Try.underlying25 (by kernel_rfl) F0.out rfl rfl rfl ?_) | (refine load_mid 28 _ 2 [.int .i64 nx, .slice aa n ca] Try.underlying28 (by kernel_rfl) F4.out rfl rfl rfl rfl ?_) | (go_at_call 9; refine (CO _ _ _ FMa.out.pinP).mono ?_; rintro e w7 ⟨ao, co, rfl, ho, hb⟩; have FMc : Hid (Own w7 w.heap.size (.slice ao n co) mo) := ho.base FB.out.size; have FO : Hid (Own w7 w.heap.size (.slice ra n rc) l) := FO.out.below hb (fun k hk => (FO.out.lt k hk).2); have FMb : Hid (Own w7 w.heap.size (.slice ab n cb) mb) := FMb.out.below hb (fun k hk => (FMb.out.lt k hk).2); have FMa : Hid (Own w7 w.heap.size (.slice aa n ca) ma) := FMa.out.below hb (fun k hk => (FMa.out.lt k hk).2); have F0 : Hid (Blk w7 b1 [.int .i64 h.fl, .int .i64 h.gp, .int .i64 h.ln, .int .i64 h.rf, .int .i64 h.sp, .int .i64 h.pu, .int .i64 h.br, .int .i64 h.dr, .int .i64 h.lv, .int .i64 h.dO, .int .i64 h.ld, .int .i64 h.qu]) := F0.out.below hb F0.out.lt; have F1 : Hid (Blk w7 b2 [.int .i64 nx, .slice ra n rc]) := F1.out.below hb F1.out.lt; have F3 : Hid (Blk w7 b3 [.int .i64 0, .int .i64 0, .int .i64 nx, .slice ab n cb]) := F3.out.below hb F3.out.lt; have F4 : Hid (Blk w7 b4 [.int .i64 0, .int .i64 0, .int .i64 nx, .slice aa n ca]) := F4.out.below hb F4.out.lt; have FB : Hid (Below w.heap.size w w7) := FB.out.trans (hb.mono FB.out.size); clear hb; clear ho) | (refine store_new [.int .i64 0, .int .i64 0, .int .i64 nx, .slice ao n co] 32 _ _ (by kernel_rfl) (by kernel_rfl) (by kernel_rfl) rfl rfl rfl rfl ?_))
  have FB0 := FB
  obtain ⟨b5, hbb⟩ : ∃ b5, b5 = w7.heap.size := ⟨_, rfl⟩
  obtain ⟨w8, hw2⟩ : ∃ w8, w8 = w7.alloc (.cells #[.int .i64 0, .int .i64 0, .int .i64 nx, .slice ao n co] 32) := ⟨_, rfl⟩
  have nb5b1 : b1 < b5 := by rw [hbb]; exact F0.out.lt
  have nb5b2 : b2 < b5 := by rw [hbb]; exact F1.out.lt
  have nb5b3 : b3 < b5 := by rw [hbb]; exact F3.out.lt
  have nb5b4 : b4 < b5 := by rw [hbb]; exact F4.out.lt
  have F0 : Hid (Blk w8 b1 [.int .i64 h.fl, .int .i64 h.gp, .int .i64 h.ln, .int .i64 h.rf, .int .i64 h.sp, .int .i64 h.pu, .int .i64 h.br, .int .i64 h.dr, .int .i64 h.lv, .int .i64 h.dO, .int .i64 h.ld, .int .i64 h.qu]) := by rw [hw2]; exact F0.out.alloc _
  have F1 : Hid (Blk w8 b2 [.int .i64 nx, .slice ra n rc]) := by rw [hw2]; exact F1.out.alloc _
  have F3 : Hid (Blk w8 b3 [.int .i64 0, .int .i64 0, .int .i64 nx, .slice ab n cb]) := by rw [hw2]; exact F3.out.alloc _
  have F4 : Hid (Blk w8 b4 [.int .i64 0, .int .i64 0, .int .i64 nx, .slice aa n ca]) := by rw [hw2]; exact F4.out.alloc _
  have F5 : Hid (Blk w8 b5 [.int .i64 0, .int .i64 0, .int .i64 nx, .slice ao n co]) := by rw [hw2]; exact Blk.at_ w7 #[.int .i64 0, .int .i64 0, .int .i64 nx, .slice ao n co] _ _ hbb
  have FO : Hid (Own w8 w.heap.size (.slice ra n rc) l) := by rw [hw2]; exact FO.out.alloc _
  have FMb : Hid (Own w8 w.heap.size (.slice ab n cb) mb) := by rw [hw2]; exact FMb.out.alloc _
  have FMa : Hid (Own w8 w.heap.size (.slice aa n ca) ma) := by rw [hw2]; exact FMa.out.alloc _
  have FMc : Hid (Own w8 w.heap.size (.slice ao n co) mo) := by rw [hw2]; exact FMc.out.alloc _
  have FB : Hid (Below w.heap.size w w8) := by rw [hw2]; exact FB.out.alloc FB.out.size _
  have leb5 : w.heap.size ≤ b5 := by rw [hbb]; exact FB0.out.size
  (try simp only [Act.put])
  rw [← hw2, ← hbb]
  clear hbb hw2 FB0
  clear CO
  go_upto_region 10 with (first | (refine load_mid 28 _ 2 [.int .i64 nx, .slice ab n cb] Try.underlying28 (by kernel_rfl) F3.out rfl rfl rfl rfl ?_) | (refine load_mid 28 _ 2 [.int .i64 nx, .slice aa n ca] Try.underlying28 (by kernel_rfl) F4.out rfl rfl rfl rfl ?_) | (refine load_mid 28 _ 2 [.int .i64 nx, .slice ao n co] Try.underlying28 (by kernel_rfl) F5.out rfl rfl rfl rfl ?_))
  have FB0 := FB
  obtain ⟨b6, hbb⟩ : ∃ b6, b6 = w8.heap.size := ⟨_, rfl⟩
  obtain ⟨w9, hw2⟩ : ∃ w9, w9 = w8.alloc (.cells #[.int .i64 nx, .slice ab n cb, .int .i64 nx, .slice aa n ca, .int .i64 nx, .slice ao n co] 28) := ⟨_, rfl⟩
  have nb6b1 : b1 < b6 := by rw [hbb]; exact F0.out.lt
  have nb6b2 : b2 < b6 := by rw [hbb]; exact F1.out.lt
  have nb6b3 : b3 < b6 := by rw [hbb]; exact F3.out.lt
  have nb6b4 : b4 < b6 := by rw [hbb]; exact F4.out.lt
  have nb6b5 : b5 < b6 := by rw [hbb]; exact F5.out.lt
  have F0 : Hid (Blk w9 b1 [.int .i64 h.fl, .int .i64 h.gp, .int .i64 h.ln, .int .i64 h.rf, .int .i64 h.sp, .int .i64 h.pu, .int .i64 h.br, .int .i64 h.dr, .int .i64 h.lv, .int .i64 h.dO, .int .i64 h.ld, .int .i64 h.qu]) := by rw [hw2]; exact F0.out.alloc _
  have F1 : Hid (Blk w9 b2 [.int .i64 nx, .slice ra n rc]) := by rw [hw2]; exact F1.out.alloc _
  have F3 : Hid (Blk w9 b3 [.int .i64 0, .int .i64 0, .int .i64 nx, .slice ab n cb]) := by rw [hw2]; exact F3.out.alloc _
  have F4 : Hid (Blk w9 b4 [.int .i64 0, .int .i64 0, .int .i64 nx, .slice aa n ca]) := by rw [hw2]; exact F4.out.alloc _
  have F5 : Hid (Blk w9 b5 [.int .i64 0, .int .i64 0, .int .i64 nx, .slice ao n co]) := by rw [hw2]; exact F5.out.alloc _
  have F6 : Hid (Blk w9 b6 [.int .i64 nx, .slice ab n cb, .int .i64 nx, .slice aa n ca, .int .i64 nx, .slice ao n co]) := by rw [hw2]; exact Blk.at_ w8 #[.int .i64 nx, .slice ab n cb, .int .i64 nx, .slice aa n ca, .int .i64 nx, .slice ao n co] _ _ hbb
  have FO : Hid (Own w9 w.heap.size (.slice ra n rc) l) := by rw [hw2]; exact FO.out.alloc _
  have FMb : Hid (Own w9 w.heap.size (.slice ab n cb) mb) := by rw [hw2]; exact FMb.out.alloc _
  have FMa : Hid (Own w9 w.heap.size (.slice aa n ca) ma) := by rw [hw2]; exact FMa.out.alloc _
  have FMc : Hid (Own w9 w.heap.size (.slice ao n co) mo) := by rw [hw2]; exact FMc.out.alloc _
  have FB : Hid (Below w.heap.size w w9) := by rw [hw2]; exact FB.out.alloc FB.out.size _
  have leb6 : w.heap.size ≤ b6 := by rw [hbb]; exact FB0.out.size
  (try simp only [Act.put])
  rw [← hw2, ← hbb]
  clear hbb hw2 FB0
  have HE : Hid (∀ k, k < 3 → ∃ (mm : List Pe) (a1 : Option Addr) (c1 : Nat), Pk h nx x y z n mm ∧ (∀ W, Own W w.heap.size (.slice ra n rc) l ∧ Own W w.heap.size (.slice ab n cb) mb ∧ Own W w.heap.size (.slice aa n ca) ma ∧ Own W w.heap.size (.slice ao n co) mo → Own W w.heap.size (.slice a1 n c1) mm) ∧ ([.int .i64 nx, .slice ab n cb, .int .i64 nx, .slice aa n ca, .int .i64 nx, .slice ao n co] : List Value)[k * 2]? = some (.int .i64 nx) ∧ ([.int .i64 nx, .slice ab n cb, .int .i64 nx, .slice aa n ca, .int .i64 nx, .slice ao n co] : List Value)[k * 2 + 1]? = some (.slice a1 n c1)) := fun k hk =>
    match k, hk with
    | 0, _ => ⟨mb, ab, cb, PB.out, fun _ r => r.2.1, rfl, rfl⟩
    | 1, _ => ⟨ma, aa, ca, PA.out, fun _ r => r.2.2.1, rfl, rfl⟩
    | 2, _ => ⟨mo, ao, co, PO.out, fun _ r => r.2.2.2, rfl, rfl⟩
  go_wp2_with fail
  go_loopw [12] (fun kk wr => ∃ (k : Nat), kk = .int .i64 (k : Int) ∧ k ≤ 3 ∧ Own wr w.heap.size (.slice ra n rc) l ∧ Own wr w.heap.size (.slice ab n cb) mb ∧ Own wr w.heap.size (.slice aa n ca) ma ∧ Own wr w.heap.size (.slice ao n co) mo ∧ Blk wr b1 [.int .i64 h.fl, .int .i64 h.gp, .int .i64 h.ln, .int .i64 h.rf, .int .i64 h.sp, .int .i64 h.pu, .int .i64 h.br, .int .i64 h.dr, .int .i64 h.lv, .int .i64 h.dO, .int .i64 h.ld, .int .i64 h.qu] ∧ Blk wr b2 [.int .i64 nx, .slice ra n rc] ∧ Blk wr b3 [.int .i64 0, .int .i64 0, .int .i64 nx, .slice ab n cb] ∧ Blk wr b4 [.int .i64 0, .int .i64 0, .int .i64 nx, .slice aa n ca] ∧ Blk wr b5 [.int .i64 0, .int .i64 0, .int .i64 nx, .slice ao n co] ∧ Blk wr b6 [.int .i64 nx, .slice ab n cb, .int .i64 nx, .slice aa n ca, .int .i64 nx, .slice ao n co] ∧ Below w.heap.size w wr) (fun kk _ => 3 - (intOf kk).toNat)
  case atStart => exact ⟨0, rfl, by omega, FO.out, FMb.out, FMa.out, FMc.out, F0.out, F1.out, F3.out, F4.out, F5.out, F6.out, FB.out⟩
  case round =>
    obtain ⟨k, rfl, hk3, r_FO, r_FMb, r_FMa, r_FMc, h_F0, h_F1, h_F3, h_F4, h_F5, h_F6, hB⟩ := hrel
    clear F0 F1 F3 F4 F5 F6 FB FO FMb FMa FMc
    have F0 : Hid (Blk wr b1 [.int .i64 h.fl, .int .i64 h.gp, .int .i64 h.ln, .int .i64 h.rf, .int .i64 h.sp, .int .i64 h.pu, .int .i64 h.br, .int .i64 h.dr, .int .i64 h.lv, .int .i64 h.dO, .int .i64 h.ld, .int .i64 h.qu]) := h_F0
    have F1 : Hid (Blk wr b2 [.int .i64 nx, .slice ra n rc]) := h_F1
    have F3 : Hid (Blk wr b3 [.int .i64 0, .int .i64 0, .int .i64 nx, .slice ab n cb]) := h_F3
    have F4 : Hid (Blk wr b4 [.int .i64 0, .int .i64 0, .int .i64 nx, .slice aa n ca]) := h_F4
    have F5 : Hid (Blk wr b5 [.int .i64 0, .int .i64 0, .int .i64 nx, .slice ao n co]) := h_F5
    have F6 : Hid (Blk wr b6 [.int .i64 nx, .slice ab n cb, .int .i64 nx, .slice aa n ca, .int .i64 nx, .slice ao n co]) := h_F6
    have FB : Hid (Below w.heap.size w wr) := hB
    clear h_F0 h_F1 h_F3 h_F4 h_F5 h_F6 hB
    have FO : Hid (Own wr w.heap.size (.slice ra n rc) l) := r_FO
    have FMb : Hid (Own wr w.heap.size (.slice ab n cb) mb) := r_FMb
    have FMa : Hid (Own wr w.heap.size (.slice aa n ca) ma) := r_FMa
    have FMc : Hid (Own wr w.heap.size (.slice ao n co) mo) := r_FMc
    clear r_FO r_FMb r_FMa r_FMc
    by_cases hlt : k < 3
    · have hd : decide ((k : Int) < 3) = true := decide_eq_true (by omega)
      obtain ⟨mm, a1, c1, pk, eo, e0, e1⟩ := HE.out k hlt
      have FM : Hid (Own wr w.heap.size (.slice a1 n c1) mm) := eo wr ⟨FO.out, FMb.out, FMa.out, FMc.out⟩
      have FE : Hid (LEl wr b6 (k * 2) nx (.slice a1 n c1)) := ⟨F6.out.c _ _ e0, F6.out.c _ _ e1⟩
      obtain ⟨r, hr⟩ : ∃ r, (riders x y mm).length = r := ⟨_, rfl⟩
      have CF : ∀ W, PIn W W.heap.size a1 mm → Calls Try.prog 10 #[.agg #[.int .i64 h.fl, .int .i64 h.gp, .int .i64 h.ln, .int .i64 h.rf, .int .i64 h.sp, .int .i64 h.pu, .int .i64 h.br, .int .i64 h.dr, .int .i64 h.lv, .int .i64 h.dO, .int .i64 h.ld, .int .i64 h.qu], .agg #[.int .i64 nx, .slice a1 n c1]] W fun e w' => e = .returned (.int .i64 0) ∧ Below W.heap.size W w' := fun W hW => by
        have hs := pk.len
        have pl := pk.led
        subst hs
        have q := implLedgerFault_any h ⟨nx, mm⟩ a1 c1 (by show mm.length ≤ _; omega) W hW
        rw [pl] at q
        exact q
      have CC : ∀ W, PIn W W.heap.size a1 mm → Calls Try.prog 11 #[.agg #[.int .i64 h.fl, .int .i64 h.gp, .int .i64 h.ln, .int .i64 h.rf, .int .i64 h.sp, .int .i64 h.pu, .int .i64 h.br, .int .i64 h.dr, .int .i64 h.lv, .int .i64 h.dO, .int .i64 h.ld, .int .i64 h.qu], .agg #[.int .i64 nx, .slice a1 n c1]] W fun e w' => ∃ ga gc, e = .returned (.agg #[.int .i64 0, .slice (some ⟨ga, 0, none⟩) 5 gc]) ∧ OwI w' W.heap.size (.slice (some ⟨ga, 0, none⟩) 5 gc) (cnts mm) ∧ Below W.heap.size W w' := fun W hW => by
        have hs := pk.len
        have pl := pk.led
        subst hs
        exact count_list h nx mm a1 c1 hl60 pl W hW
      have CL : ∀ W, PIn W W.heap.size a1 mm → Calls Try.prog 12 #[.agg #[.int .i64 h.fl, .int .i64 h.gp, .int .i64 h.ln, .int .i64 h.rf, .int .i64 h.sp, .int .i64 h.pu, .int .i64 h.br, .int .i64 h.dr, .int .i64 h.lv, .int .i64 h.dO, .int .i64 h.ld, .int .i64 h.qu], .agg #[.int .i64 nx, .slice a1 n c1], .int .i64 x, .int .i64 y] W fun e w' => ∃ la lc, e = .returned (.agg #[.int .i64 0, .slice la r lc]) ∧ Below W.heap.size W w' := fun W hW => by
        have hs := pk.len
        have pl := pk.ask0
        subst hs
        exact load_list h nx mm x y a1 c1 hl60 pl r hr W hW
      have hrl : (r : Int) ≤ h.ld := by rw [← hr]; exact pk.ld
      have dr1 : decide ((r : Int) > h.ld) = false := decide_eq_false (by omega)
      have dr2 : decide (h.ld < (r : Int)) = false := decide_eq_false (by omega)
      have HCB : Hid (∀ (i : Nat) q, (cnts mm)[i]? = some q → 0 ≤ q ∧ q ≤ 60) := cnts_in (by rw [pk.len]; exact hl60)
      have HSM : Hid (sm (cnts mm) 5 = (n : Int)) := cnts_sum pk.sum
      obtain ⟨cn, hcn⟩ : ∃ cn, cnts mm = cn := ⟨_, rfl⟩
      have HCL : Hid (cn.length = 5) := by rw [← hcn]; rfl
      rw [hcn] at CC
      rw [hcn] at HCB HSM
      have hk3i : (k : Int) < 3 := by omega
      have fi := fieldP1
      clear hr pk eo e0 e1 hcn
      go_upto_region 13 with fail
      have FE : Hid (LEl wr.drew b6 (k * 2) nx (.slice a1 n c1)) := FE.out.below (Below.refl _ _).drew FE.out.lt
      have FM : Hid (Own wr.drew w.heap.size (.slice a1 n c1) mm) := FM.out.drew
      have F0 : Hid (Blk wr.drew b1 [.int .i64 h.fl, .int .i64 h.gp, .int .i64 h.ln, .int .i64 h.rf, .int .i64 h.sp, .int .i64 h.pu, .int .i64 h.br, .int .i64 h.dr, .int .i64 h.lv, .int .i64 h.dO, .int .i64 h.ld, .int .i64 h.qu]) := F0.out.below (Below.refl _ _).drew F0.out.lt
      have F1 : Hid (Blk wr.drew b2 [.int .i64 nx, .slice ra n rc]) := F1.out.below (Below.refl _ _).drew F1.out.lt
      have F3 : Hid (Blk wr.drew b3 [.int .i64 0, .int .i64 0, .int .i64 nx, .slice ab n cb]) := F3.out.below (Below.refl _ _).drew F3.out.lt
      have F4 : Hid (Blk wr.drew b4 [.int .i64 0, .int .i64 0, .int .i64 nx, .slice aa n ca]) := F4.out.below (Below.refl _ _).drew F4.out.lt
      have F5 : Hid (Blk wr.drew b5 [.int .i64 0, .int .i64 0, .int .i64 nx, .slice ao n co]) := F5.out.below (Below.refl _ _).drew F5.out.lt
      have F6 : Hid (Blk wr.drew b6 [.int .i64 nx, .slice ab n cb, .int .i64 nx, .slice aa n ca, .int .i64 nx, .slice ao n co]) := F6.out.below (Below.refl _ _).drew F6.out.lt
      have FB : Hid (Below w.heap.size w wr.drew) := FB.out.drew
      have FO : Hid (Own wr.drew w.heap.size (.slice ra n rc) l) := FO.out.drew
      have FMb : Hid (Own wr.drew w.heap.size (.slice ab n cb) mb) := FMb.out.drew
      have FMa : Hid (Own wr.drew w.heap.size (.slice aa n ca) ma) := FMa.out.drew
      have FMc : Hid (Own wr.drew w.heap.size (.slice ao n co) mo) := FMc.out.drew
      have m0 := FE.out.c0
      have m1 := FE.out.c1
      refine wp_region_held_drew (S := (fun w'' => Blk w'' b1 ([.int .i64 h.fl, .int .i64 h.gp, .int .i64 h.ln, .int .i64 h.rf, .int .i64 h.sp, .int .i64 h.pu, .int .i64 h.br, .int .i64 h.dr, .int .i64 h.lv, .int .i64 h.dO, .int .i64 h.ld, .int .i64 h.qu]) ∧ Blk w'' b2 ([.int .i64 nx, .slice ra n rc]) ∧ w''.cell? ⟨b6, (k * 2), none⟩ = some (.int .i64 nx) ∧ w''.cell? ⟨b6, (k * 2 + 1), none⟩ = some (.slice a1 n c1))) (by kernel_rfl) (by (try dsimp only); first | exact ⟨F0.out, F1.out, m0, m1⟩ | go_keep) (fun hHeld => ?_)
      obtain ⟨v_3, hw1⟩ : ∃ v_3, v_3 = wr.drew := ⟨_, rfl⟩
      have FE : Hid (LEl v_3 b6 (k * 2) nx (.slice a1 n c1)) := by rw [hw1]; exact FE.out
      have FM : Hid (Own v_3 w.heap.size (.slice a1 n c1) mm) := by rw [hw1]; exact FM.out
      have F0 : Hid (Blk v_3 b1 [.int .i64 h.fl, .int .i64 h.gp, .int .i64 h.ln, .int .i64 h.rf, .int .i64 h.sp, .int .i64 h.pu, .int .i64 h.br, .int .i64 h.dr, .int .i64 h.lv, .int .i64 h.dO, .int .i64 h.ld, .int .i64 h.qu]) := by rw [hw1]; exact F0.out
      have F1 : Hid (Blk v_3 b2 [.int .i64 nx, .slice ra n rc]) := by rw [hw1]; exact F1.out
      have F3 : Hid (Blk v_3 b3 [.int .i64 0, .int .i64 0, .int .i64 nx, .slice ab n cb]) := by rw [hw1]; exact F3.out
      have F4 : Hid (Blk v_3 b4 [.int .i64 0, .int .i64 0, .int .i64 nx, .slice aa n ca]) := by rw [hw1]; exact F4.out
      have F5 : Hid (Blk v_3 b5 [.int .i64 0, .int .i64 0, .int .i64 nx, .slice ao n co]) := by rw [hw1]; exact F5.out
      have F6 : Hid (Blk v_3 b6 [.int .i64 nx, .slice ab n cb, .int .i64 nx, .slice aa n ca, .int .i64 nx, .slice ao n co]) := by rw [hw1]; exact F6.out
      have FB : Hid (Below w.heap.size w v_3) := by rw [hw1]; exact FB.out
      have FO : Hid (Own v_3 w.heap.size (.slice ra n rc) l) := by rw [hw1]; exact FO.out
      have FMb : Hid (Own v_3 w.heap.size (.slice ab n cb) mb) := by rw [hw1]; exact FMb.out
      have FMa : Hid (Own v_3 w.heap.size (.slice aa n ca) ma) := by rw [hw1]; exact FMa.out
      have FMc : Hid (Own v_3 w.heap.size (.slice ao n co) mo) := by rw [hw1]; exact FMc.out
      rw [← hw1] at hHeld ⊢
      clear hw1
      have m0 := FE.out.c0
      have m1 := FE.out.c1
      refine tkz 0 rfl ?_ (hy := Or.inl ⟨by kernel_rfl, fun wx hSw => exec_load_blk 25 _ Try.underlying25 (by kernel_rfl) rfl rfl hSw.1⟩)
      refine tkz 1 rfl ?_
      refine tkz 2 rfl ?_
      refine tkz 3 rfl ?_
      refine tkz 4 rfl ?_
      refine wpAnyH_ready (rs := [5]) (by kernel_rfl) (by simp) ?_
      refine (AllReadyH.cons rfl (fun K hK => ?_) AllReadyH.nil)
      go_simp
      refine (CF _ FM.out.pinP).mono ?_
      rintro e v_4 ⟨rfl, hb⟩
      have FE : Hid (LEl v_4 b6 (k * 2) nx (.slice a1 n c1)) := FE.out.below hb FE.out.lt
      have FM : Hid (Own v_4 w.heap.size (.slice a1 n c1) mm) := FM.out.below hb (fun k hk => (FM.out.lt k hk).2)
      have F0 : Hid (Blk v_4 b1 [.int .i64 h.fl, .int .i64 h.gp, .int .i64 h.ln, .int .i64 h.rf, .int .i64 h.sp, .int .i64 h.pu, .int .i64 h.br, .int .i64 h.dr, .int .i64 h.lv, .int .i64 h.dO, .int .i64 h.ld, .int .i64 h.qu]) := F0.out.below hb F0.out.lt
      have F1 : Hid (Blk v_4 b2 [.int .i64 nx, .slice ra n rc]) := F1.out.below hb F1.out.lt
      have F3 : Hid (Blk v_4 b3 [.int .i64 0, .int .i64 0, .int .i64 nx, .slice ab n cb]) := F3.out.below hb F3.out.lt
      have F4 : Hid (Blk v_4 b4 [.int .i64 0, .int .i64 0, .int .i64 nx, .slice aa n ca]) := F4.out.below hb F4.out.lt
      have F5 : Hid (Blk v_4 b5 [.int .i64 0, .int .i64 0, .int .i64 nx, .slice ao n co]) := F5.out.below hb F5.out.lt
      have F6 : Hid (Blk v_4 b6 [.int .i64 nx, .slice ab n cb, .int .i64 nx, .slice aa n ca, .int .i64 nx, .slice ao n co]) := F6.out.below hb F6.out.lt
      have FB : Hid (Below w.heap.size w v_4) := FB.out.trans (hb.mono FB.out.size)
      have FO : Hid (Own v_4 w.heap.size (.slice ra n rc) l) := FO.out.below hb (fun k hk => (FO.out.lt k hk).2)
      have FMb : Hid (Own v_4 w.heap.size (.slice ab n cb) mb) := FMb.out.below hb (fun k hk => (FMb.out.lt k hk).2)
      have FMa : Hid (Own v_4 w.heap.size (.slice aa n ca) ma) := FMa.out.below hb (fun k hk => (FMa.out.lt k hk).2)
      have FMc : Hid (Own v_4 w.heap.size (.slice ao n co) mo) := FMc.out.below hb (fun k hk => (FMc.out.lt k hk).2)
      clear hb
      have m0 := FE.out.c0
      have m1 := FE.out.c1
      try dsimp only
      refine hK.out _ _ (by (try dsimp only); first | exact ⟨F0.out, F1.out, m0, m1⟩ | go_keep) (fun hHeld => ?_)
      clear hK K
      try simp only [Act.put, List.getElem_toArray, List.getElem_cons_succ, List.getElem_cons_zero, List.setIfInBounds_toArray, List.set_cons_zero, List.set_cons_succ]
      refine tkz 6 rfl ?_
      refine tkz 7 rfl ?_
      refine tkz 8 rfl ?_
      refine tkz 9 rfl ?_
      refine tkz 10 rfl ?_
      refine tkz 11 rfl ?_
      refine tkz 12 rfl ?_
      refine tkz 13 rfl ?_
      refine tkz 14 rfl ?_
      refine tkz 15 rfl ?_ (hy := Or.inl ⟨by kernel_rfl, by (intro wx hSw; have hq1_1 := hSw.2.1.c 1 _ rfl; (try dsimp only at hSw); go_simp <;> with_reducible rfl)⟩)
      refine tkz 16 rfl ?_
      refine tkz 17 rfl ?_
      refine tkz 18 rfl ?_
      refine wpAnyH_done (by kernel_rfl) ?_ _
      clear m0 m1
      go_upto_region 16 with fail
      obtain ⟨wa, hwa⟩ : ∃ wa, wa = v_4 := ⟨_, rfl⟩
      have FE : Hid (LEl wa b6 (k * 2) nx (.slice a1 n c1)) := by rw [hwa]; exact FE.out
      have FM : Hid (Own wa w.heap.size (.slice a1 n c1) mm) := by rw [hwa]; exact FM.out
      have F0 : Hid (Blk wa b1 [.int .i64 h.fl, .int .i64 h.gp, .int .i64 h.ln, .int .i64 h.rf, .int .i64 h.sp, .int .i64 h.pu, .int .i64 h.br, .int .i64 h.dr, .int .i64 h.lv, .int .i64 h.dO, .int .i64 h.ld, .int .i64 h.qu]) := by rw [hwa]; exact F0.out
      have F1 : Hid (Blk wa b2 [.int .i64 nx, .slice ra n rc]) := by rw [hwa]; exact F1.out
      have F3 : Hid (Blk wa b3 [.int .i64 0, .int .i64 0, .int .i64 nx, .slice ab n cb]) := by rw [hwa]; exact F3.out
      have F4 : Hid (Blk wa b4 [.int .i64 0, .int .i64 0, .int .i64 nx, .slice aa n ca]) := by rw [hwa]; exact F4.out
      have F5 : Hid (Blk wa b5 [.int .i64 0, .int .i64 0, .int .i64 nx, .slice ao n co]) := by rw [hwa]; exact F5.out
      have F6 : Hid (Blk wa b6 [.int .i64 nx, .slice ab n cb, .int .i64 nx, .slice aa n ca, .int .i64 nx, .slice ao n co]) := by rw [hwa]; exact F6.out
      have FB : Hid (Below w.heap.size w wa) := by rw [hwa]; exact FB.out
      have FO : Hid (Own wa w.heap.size (.slice ra n rc) l) := by rw [hwa]; exact FO.out
      have FMb : Hid (Own wa w.heap.size (.slice ab n cb) mb) := by rw [hwa]; exact FMb.out
      have FMa : Hid (Own wa w.heap.size (.slice aa n ca) ma) := by rw [hwa]; exact FMa.out
      have FMc : Hid (Own wa w.heap.size (.slice ao n co) mo) := by rw [hwa]; exact FMc.out
      rw [← hwa]
      clear hwa
      have FE : Hid (LEl wa.drew b6 (k * 2) nx (.slice a1 n c1)) := FE.out.below (Below.refl _ _).drew FE.out.lt
      have FM : Hid (Own wa.drew w.heap.size (.slice a1 n c1) mm) := FM.out.drew
      have F0 : Hid (Blk wa.drew b1 [.int .i64 h.fl, .int .i64 h.gp, .int .i64 h.ln, .int .i64 h.rf, .int .i64 h.sp, .int .i64 h.pu, .int .i64 h.br, .int .i64 h.dr, .int .i64 h.lv, .int .i64 h.dO, .int .i64 h.ld, .int .i64 h.qu]) := F0.out.below (Below.refl _ _).drew F0.out.lt
      have F1 : Hid (Blk wa.drew b2 [.int .i64 nx, .slice ra n rc]) := F1.out.below (Below.refl _ _).drew F1.out.lt
      have F3 : Hid (Blk wa.drew b3 [.int .i64 0, .int .i64 0, .int .i64 nx, .slice ab n cb]) := F3.out.below (Below.refl _ _).drew F3.out.lt
      have F4 : Hid (Blk wa.drew b4 [.int .i64 0, .int .i64 0, .int .i64 nx, .slice aa n ca]) := F4.out.below (Below.refl _ _).drew F4.out.lt
      have F5 : Hid (Blk wa.drew b5 [.int .i64 0, .int .i64 0, .int .i64 nx, .slice ao n co]) := F5.out.below (Below.refl _ _).drew F5.out.lt
      have F6 : Hid (Blk wa.drew b6 [.int .i64 nx, .slice ab n cb, .int .i64 nx, .slice aa n ca, .int .i64 nx, .slice ao n co]) := F6.out.below (Below.refl _ _).drew F6.out.lt
      have FB : Hid (Below w.heap.size w wa.drew) := FB.out.drew
      have FO : Hid (Own wa.drew w.heap.size (.slice ra n rc) l) := FO.out.drew
      have FMb : Hid (Own wa.drew w.heap.size (.slice ab n cb) mb) := FMb.out.drew
      have FMa : Hid (Own wa.drew w.heap.size (.slice aa n ca) ma) := FMa.out.drew
      have FMc : Hid (Own wa.drew w.heap.size (.slice ao n co) mo) := FMc.out.drew
      have m0 := FE.out.c0
      have m1 := FE.out.c1
      refine wp_region_held_drew (S := (fun w'' => Blk w'' b1 ([.int .i64 h.fl, .int .i64 h.gp, .int .i64 h.ln, .int .i64 h.rf, .int .i64 h.sp, .int .i64 h.pu, .int .i64 h.br, .int .i64 h.dr, .int .i64 h.lv, .int .i64 h.dO, .int .i64 h.ld, .int .i64 h.qu]) ∧ w''.cell? ⟨b6, (k * 2), none⟩ = some (.int .i64 nx) ∧ w''.cell? ⟨b6, (k * 2 + 1), none⟩ = some (.slice a1 n c1))) (by kernel_rfl) (by (try dsimp only); first | exact ⟨F0.out, m0, m1⟩ | go_keep) (fun hHeld => ?_)
      obtain ⟨v_5, hw1⟩ : ∃ v_5, v_5 = wa.drew := ⟨_, rfl⟩
      have FE : Hid (LEl v_5 b6 (k * 2) nx (.slice a1 n c1)) := by rw [hw1]; exact FE.out
      have FM : Hid (Own v_5 w.heap.size (.slice a1 n c1) mm) := by rw [hw1]; exact FM.out
      have F0 : Hid (Blk v_5 b1 [.int .i64 h.fl, .int .i64 h.gp, .int .i64 h.ln, .int .i64 h.rf, .int .i64 h.sp, .int .i64 h.pu, .int .i64 h.br, .int .i64 h.dr, .int .i64 h.lv, .int .i64 h.dO, .int .i64 h.ld, .int .i64 h.qu]) := by rw [hw1]; exact F0.out
      have F1 : Hid (Blk v_5 b2 [.int .i64 nx, .slice ra n rc]) := by rw [hw1]; exact F1.out
      have F3 : Hid (Blk v_5 b3 [.int .i64 0, .int .i64 0, .int .i64 nx, .slice ab n cb]) := by rw [hw1]; exact F3.out
      have F4 : Hid (Blk v_5 b4 [.int .i64 0, .int .i64 0, .int .i64 nx, .slice aa n ca]) := by rw [hw1]; exact F4.out
      have F5 : Hid (Blk v_5 b5 [.int .i64 0, .int .i64 0, .int .i64 nx, .slice ao n co]) := by rw [hw1]; exact F5.out
      have F6 : Hid (Blk v_5 b6 [.int .i64 nx, .slice ab n cb, .int .i64 nx, .slice aa n ca, .int .i64 nx, .slice ao n co]) := by rw [hw1]; exact F6.out
      have FB : Hid (Below w.heap.size w v_5) := by rw [hw1]; exact FB.out
      have FO : Hid (Own v_5 w.heap.size (.slice ra n rc) l) := by rw [hw1]; exact FO.out
      have FMb : Hid (Own v_5 w.heap.size (.slice ab n cb) mb) := by rw [hw1]; exact FMb.out
      have FMa : Hid (Own v_5 w.heap.size (.slice aa n ca) ma) := by rw [hw1]; exact FMa.out
      have FMc : Hid (Own v_5 w.heap.size (.slice ao n co) mo) := by rw [hw1]; exact FMc.out
      rw [← hw1] at hHeld ⊢
      clear hw1
      have m0 := FE.out.c0
      have m1 := FE.out.c1
      refine tkz 0 rfl ?_ (hy := Or.inl ⟨by kernel_rfl, fun wx hSw => exec_load_blk 25 _ Try.underlying25 (by kernel_rfl) rfl rfl hSw.1⟩)
      refine tkz 1 rfl ?_
      refine tkz 2 rfl ?_
      refine tkz 3 rfl ?_
      refine tkz 4 rfl ?_
      refine wpAnyH_ready (rs := [5]) (by kernel_rfl) (by simp) ?_
      refine (AllReadyH.cons rfl (fun K hK => ?_) AllReadyH.nil)
      go_simp
      refine (CC _ FM.out.pinP).mono ?_
      rintro e v_6 ⟨ga, gc, rfl, hOw, hb⟩
      have FG : Hid (OwI v_6 w.heap.size (.slice (some ⟨ga, 0, none⟩) 5 gc) cn) := hOw.base FB.out.size
      have FE : Hid (LEl v_6 b6 (k * 2) nx (.slice a1 n c1)) := FE.out.below hb FE.out.lt
      have FM : Hid (Own v_6 w.heap.size (.slice a1 n c1) mm) := FM.out.below hb (fun k hk => (FM.out.lt k hk).2)
      have F0 : Hid (Blk v_6 b1 [.int .i64 h.fl, .int .i64 h.gp, .int .i64 h.ln, .int .i64 h.rf, .int .i64 h.sp, .int .i64 h.pu, .int .i64 h.br, .int .i64 h.dr, .int .i64 h.lv, .int .i64 h.dO, .int .i64 h.ld, .int .i64 h.qu]) := F0.out.below hb F0.out.lt
      have F1 : Hid (Blk v_6 b2 [.int .i64 nx, .slice ra n rc]) := F1.out.below hb F1.out.lt
      have F3 : Hid (Blk v_6 b3 [.int .i64 0, .int .i64 0, .int .i64 nx, .slice ab n cb]) := F3.out.below hb F3.out.lt
      have F4 : Hid (Blk v_6 b4 [.int .i64 0, .int .i64 0, .int .i64 nx, .slice aa n ca]) := F4.out.below hb F4.out.lt
      have F5 : Hid (Blk v_6 b5 [.int .i64 0, .int .i64 0, .int .i64 nx, .slice ao n co]) := F5.out.below hb F5.out.lt
      have F6 : Hid (Blk v_6 b6 [.int .i64 nx, .slice ab n cb, .int .i64 nx, .slice aa n ca, .int .i64 nx, .slice ao n co]) := F6.out.below hb F6.out.lt
      have FB : Hid (Below w.heap.size w v_6) := FB.out.trans (hb.mono FB.out.size)
      have FO : Hid (Own v_6 w.heap.size (.slice ra n rc) l) := FO.out.below hb (fun k hk => (FO.out.lt k hk).2)
      have FMb : Hid (Own v_6 w.heap.size (.slice ab n cb) mb) := FMb.out.below hb (fun k hk => (FMb.out.lt k hk).2)
      have FMa : Hid (Own v_6 w.heap.size (.slice aa n ca) ma) := FMa.out.below hb (fun k hk => (FMa.out.lt k hk).2)
      have FMc : Hid (Own v_6 w.heap.size (.slice ao n co) mo) := FMc.out.below hb (fun k hk => (FMc.out.lt k hk).2)
      clear hb
      have m0 := FE.out.c0
      have m1 := FE.out.c1
      clear hOw
      try dsimp only
      refine hK.out _ _ (by (try dsimp only); first | exact ⟨F0.out, m0, m1⟩ | go_keep) (fun hHeld => ?_)
      clear hK K
      try simp only [Act.put, List.getElem_toArray, List.getElem_cons_succ, List.getElem_cons_zero, List.setIfInBounds_toArray, List.set_cons_zero, List.set_cons_succ]
      refine tkz 6 rfl ?_
      refine tkz 7 rfl ?_
      refine wpAnyH_done (by kernel_rfl) ?_ _
      clear m0 m1
      go_wp2_with fail
      obtain ⟨wb, hwb⟩ : ∃ wb, wb = v_6 := ⟨_, rfl⟩
      have FE : Hid (LEl wb b6 (k * 2) nx (.slice a1 n c1)) := by rw [hwb]; exact FE.out
      have FM : Hid (Own wb w.heap.size (.slice a1 n c1) mm) := by rw [hwb]; exact FM.out
      have F0 : Hid (Blk wb b1 [.int .i64 h.fl, .int .i64 h.gp, .int .i64 h.ln, .int .i64 h.rf, .int .i64 h.sp, .int .i64 h.pu, .int .i64 h.br, .int .i64 h.dr, .int .i64 h.lv, .int .i64 h.dO, .int .i64 h.ld, .int .i64 h.qu]) := by rw [hwb]; exact F0.out
      have F1 : Hid (Blk wb b2 [.int .i64 nx, .slice ra n rc]) := by rw [hwb]; exact F1.out
      have F3 : Hid (Blk wb b3 [.int .i64 0, .int .i64 0, .int .i64 nx, .slice ab n cb]) := by rw [hwb]; exact F3.out
      have F4 : Hid (Blk wb b4 [.int .i64 0, .int .i64 0, .int .i64 nx, .slice aa n ca]) := by rw [hwb]; exact F4.out
      have F5 : Hid (Blk wb b5 [.int .i64 0, .int .i64 0, .int .i64 nx, .slice ao n co]) := by rw [hwb]; exact F5.out
      have F6 : Hid (Blk wb b6 [.int .i64 nx, .slice ab n cb, .int .i64 nx, .slice aa n ca, .int .i64 nx, .slice ao n co]) := by rw [hwb]; exact F6.out
      have FB : Hid (Below w.heap.size w wb) := by rw [hwb]; exact FB.out
      have FO : Hid (Own wb w.heap.size (.slice ra n rc) l) := by rw [hwb]; exact FO.out
      have FMb : Hid (Own wb w.heap.size (.slice ab n cb) mb) := by rw [hwb]; exact FMb.out
      have FMa : Hid (Own wb w.heap.size (.slice aa n ca) ma) := by rw [hwb]; exact FMa.out
      have FMc : Hid (Own wb w.heap.size (.slice ao n co) mo) := by rw [hwb]; exact FMc.out
      have FG : Hid (OwI wb w.heap.size (.slice (some ⟨ga, 0, none⟩) 5 gc) cn) := by rw [hwb]; exact FG.out
      rw [← hwb]
      clear hwb
      go_loopw [13, 15] (fun ss ii wr => ∃ (i : Nat), ss = .int .i64 (sm cn i) ∧ ii = .int .i64 (i : Int) ∧ i ≤ 5 ∧ 0 ≤ sm cn i ∧ sm cn i ≤ 60 * (i : Int) ∧ wr = wb) (fun _ ii _ => 5 - (intOf ii).toNat)
      case atStart => exact ⟨0, by first | rfl | simp [sm], rfl, by omega, by simp [sm], by simp [sm], rfl⟩
      case round =>
        obtain ⟨i, rfl, rfl, hi5, hs0, hs1, hwq⟩ := hrel
        subst hwq
        by_cases hil : i < 5
        · have hdi : decide ((i : Int) < 5) = true := decide_eq_true (by omega)
          obtain ⟨q, hq⟩ : ∃ q, cn[i]? = some q := ⟨_, List.getElem?_eq_getElem (by have := HCL.out; omega)⟩
          have cq := FG.out.cell hq
          have hqb := HCB.out i q hq
          have hnx := sm_next hq
          obtain ⟨S, hS⟩ : ∃ S, sm cn i = S := ⟨_, rfl⟩
          have HSi : Hid (sm cn (i + 1) = S + q) := by rw [hnx, hS]; exact rfl
          rw [hS] at hs0 hs1 ⊢
          have ewS : IntKind.i64.wrap (S + q) = S + q := IntWalk.i64_in _ (by omega)
          have hi5i : (i : Int) < 5 := by omega
          clear hq hnx hS
          go_wp2_with fail
          go_roundw
          case rel => exact ⟨i + 1, by rw [HSi.out], by simp, by omega, by rw [HSi.out]; omega, by rw [HSi.out]; omega, by first | rfl | trivial⟩
          case measure => simp [intOf]; omega
        · have hdi : decide ((i : Int) < 5) = false := decide_eq_false (by omega)
          have hi6 : i = 5 := by omega
          have hSn : sm cn i = (n : Int) := by rw [hi6]; exact HSM.out
          rw [hSn] at hs0 hs1 ⊢
          have hnn : ((n : Int) != (n : Int)) = false := by simp
          clear hSn hi6 HSM HCB HCL
          go_upto_region 21 with fail
          have FE : Hid (LEl wr.drew b6 (k * 2) nx (.slice a1 n c1)) := FE.out.below (Below.refl _ _).drew FE.out.lt
          have FM : Hid (Own wr.drew w.heap.size (.slice a1 n c1) mm) := FM.out.drew
          have F0 : Hid (Blk wr.drew b1 [.int .i64 h.fl, .int .i64 h.gp, .int .i64 h.ln, .int .i64 h.rf, .int .i64 h.sp, .int .i64 h.pu, .int .i64 h.br, .int .i64 h.dr, .int .i64 h.lv, .int .i64 h.dO, .int .i64 h.ld, .int .i64 h.qu]) := F0.out.below (Below.refl _ _).drew F0.out.lt
          have F1 : Hid (Blk wr.drew b2 [.int .i64 nx, .slice ra n rc]) := F1.out.below (Below.refl _ _).drew F1.out.lt
          have F3 : Hid (Blk wr.drew b3 [.int .i64 0, .int .i64 0, .int .i64 nx, .slice ab n cb]) := F3.out.below (Below.refl _ _).drew F3.out.lt
          have F4 : Hid (Blk wr.drew b4 [.int .i64 0, .int .i64 0, .int .i64 nx, .slice aa n ca]) := F4.out.below (Below.refl _ _).drew F4.out.lt
          have F5 : Hid (Blk wr.drew b5 [.int .i64 0, .int .i64 0, .int .i64 nx, .slice ao n co]) := F5.out.below (Below.refl _ _).drew F5.out.lt
          have F6 : Hid (Blk wr.drew b6 [.int .i64 nx, .slice ab n cb, .int .i64 nx, .slice aa n ca, .int .i64 nx, .slice ao n co]) := F6.out.below (Below.refl _ _).drew F6.out.lt
          have FB : Hid (Below w.heap.size w wr.drew) := FB.out.drew
          have FO : Hid (Own wr.drew w.heap.size (.slice ra n rc) l) := FO.out.drew
          have FMb : Hid (Own wr.drew w.heap.size (.slice ab n cb) mb) := FMb.out.drew
          have FMa : Hid (Own wr.drew w.heap.size (.slice aa n ca) ma) := FMa.out.drew
          have FMc : Hid (Own wr.drew w.heap.size (.slice ao n co) mo) := FMc.out.drew
          have m0 := FE.out.c0
          have m1 := FE.out.c1
          refine wp_region_held_drew (S := (fun w'' => Blk w'' b1 ([.int .i64 h.fl, .int .i64 h.gp, .int .i64 h.ln, .int .i64 h.rf, .int .i64 h.sp, .int .i64 h.pu, .int .i64 h.br, .int .i64 h.dr, .int .i64 h.lv, .int .i64 h.dO, .int .i64 h.ld, .int .i64 h.qu]) ∧ Blk w'' b2 ([.int .i64 nx, .slice ra n rc]) ∧ w''.cell? ⟨b6, (k * 2), none⟩ = some (.int .i64 nx) ∧ w''.cell? ⟨b6, (k * 2 + 1), none⟩ = some (.slice a1 n c1))) (by kernel_rfl) (by (try dsimp only); first | exact ⟨F0.out, F1.out, m0, m1⟩ | go_keep) (fun hHeld => ?_)
          obtain ⟨v_7, hw1⟩ : ∃ v_7, v_7 = wr.drew := ⟨_, rfl⟩
          have FE : Hid (LEl v_7 b6 (k * 2) nx (.slice a1 n c1)) := by rw [hw1]; exact FE.out
          have FM : Hid (Own v_7 w.heap.size (.slice a1 n c1) mm) := by rw [hw1]; exact FM.out
          have F0 : Hid (Blk v_7 b1 [.int .i64 h.fl, .int .i64 h.gp, .int .i64 h.ln, .int .i64 h.rf, .int .i64 h.sp, .int .i64 h.pu, .int .i64 h.br, .int .i64 h.dr, .int .i64 h.lv, .int .i64 h.dO, .int .i64 h.ld, .int .i64 h.qu]) := by rw [hw1]; exact F0.out
          have F1 : Hid (Blk v_7 b2 [.int .i64 nx, .slice ra n rc]) := by rw [hw1]; exact F1.out
          have F3 : Hid (Blk v_7 b3 [.int .i64 0, .int .i64 0, .int .i64 nx, .slice ab n cb]) := by rw [hw1]; exact F3.out
          have F4 : Hid (Blk v_7 b4 [.int .i64 0, .int .i64 0, .int .i64 nx, .slice aa n ca]) := by rw [hw1]; exact F4.out
          have F5 : Hid (Blk v_7 b5 [.int .i64 0, .int .i64 0, .int .i64 nx, .slice ao n co]) := by rw [hw1]; exact F5.out
          have F6 : Hid (Blk v_7 b6 [.int .i64 nx, .slice ab n cb, .int .i64 nx, .slice aa n ca, .int .i64 nx, .slice ao n co]) := by rw [hw1]; exact F6.out
          have FB : Hid (Below w.heap.size w v_7) := by rw [hw1]; exact FB.out
          have FO : Hid (Own v_7 w.heap.size (.slice ra n rc) l) := by rw [hw1]; exact FO.out
          have FMb : Hid (Own v_7 w.heap.size (.slice ab n cb) mb) := by rw [hw1]; exact FMb.out
          have FMa : Hid (Own v_7 w.heap.size (.slice aa n ca) ma) := by rw [hw1]; exact FMa.out
          have FMc : Hid (Own v_7 w.heap.size (.slice ao n co) mo) := by rw [hw1]; exact FMc.out
          rw [← hw1] at hHeld ⊢
          clear hw1
          have m0 := FE.out.c0
          have m1 := FE.out.c1
          refine tkz 0 rfl ?_
          refine tkz 1 rfl ?_
          refine tkz 2 rfl ?_ (hy := Or.inl ⟨by kernel_rfl, by (intro wx hSw; have hq1_1 := hSw.2.1.c 1 _ rfl; (try dsimp only at hSw); go_simp <;> with_reducible rfl)⟩)
          refine tkz 3 rfl ?_
          refine tkz 4 rfl ?_
          refine tkz 5 rfl ?_
          refine tkz 6 rfl ?_ (hy := Or.inl ⟨by kernel_rfl, fun wx hSw => exec_load_blk 25 _ Try.underlying25 (by kernel_rfl) rfl rfl hSw.1⟩)
          refine tkz 7 rfl ?_
          refine tkz 8 rfl ?_
          refine tkz 9 rfl ?_
          refine tkz 10 rfl ?_
          refine tkz 11 rfl ?_
          refine tkz 12 rfl ?_
          refine tkz 16 rfl ?_
          refine tkz 17 rfl ?_ (hy := Or.inl ⟨by kernel_rfl, by (intro wx hSw; have hq0_10 := hSw.1.c 10 _ rfl; (try dsimp only at hSw); go_simp <;> with_reducible rfl)⟩)
          refine wpAnyH_ready (rs := [13]) (by kernel_rfl) (by simp) ?_
          refine (AllReadyH.cons rfl (fun K hK => ?_) AllReadyH.nil)
          go_simp
          refine (CL _ FM.out.pinP).mono ?_
          rintro e v_8 ⟨la, lc, rfl, hb⟩
          have FE : Hid (LEl v_8 b6 (k * 2) nx (.slice a1 n c1)) := FE.out.below hb FE.out.lt
          have FM : Hid (Own v_8 w.heap.size (.slice a1 n c1) mm) := FM.out.below hb (fun k hk => (FM.out.lt k hk).2)
          have F0 : Hid (Blk v_8 b1 [.int .i64 h.fl, .int .i64 h.gp, .int .i64 h.ln, .int .i64 h.rf, .int .i64 h.sp, .int .i64 h.pu, .int .i64 h.br, .int .i64 h.dr, .int .i64 h.lv, .int .i64 h.dO, .int .i64 h.ld, .int .i64 h.qu]) := F0.out.below hb F0.out.lt
          have F1 : Hid (Blk v_8 b2 [.int .i64 nx, .slice ra n rc]) := F1.out.below hb F1.out.lt
          have F3 : Hid (Blk v_8 b3 [.int .i64 0, .int .i64 0, .int .i64 nx, .slice ab n cb]) := F3.out.below hb F3.out.lt
          have F4 : Hid (Blk v_8 b4 [.int .i64 0, .int .i64 0, .int .i64 nx, .slice aa n ca]) := F4.out.below hb F4.out.lt
          have F5 : Hid (Blk v_8 b5 [.int .i64 0, .int .i64 0, .int .i64 nx, .slice ao n co]) := F5.out.below hb F5.out.lt
          have F6 : Hid (Blk v_8 b6 [.int .i64 nx, .slice ab n cb, .int .i64 nx, .slice aa n ca, .int .i64 nx, .slice ao n co]) := F6.out.below hb F6.out.lt
          have FB : Hid (Below w.heap.size w v_8) := FB.out.trans (hb.mono FB.out.size)
          have FO : Hid (Own v_8 w.heap.size (.slice ra n rc) l) := FO.out.below hb (fun k hk => (FO.out.lt k hk).2)
          have FMb : Hid (Own v_8 w.heap.size (.slice ab n cb) mb) := FMb.out.below hb (fun k hk => (FMb.out.lt k hk).2)
          have FMa : Hid (Own v_8 w.heap.size (.slice aa n ca) ma) := FMa.out.below hb (fun k hk => (FMa.out.lt k hk).2)
          have FMc : Hid (Own v_8 w.heap.size (.slice ao n co) mo) := FMc.out.below hb (fun k hk => (FMc.out.lt k hk).2)
          clear hb
          have m0 := FE.out.c0
          have m1 := FE.out.c1
          try dsimp only
          refine hK.out _ _ (by (try dsimp only); first | exact ⟨F0.out, F1.out, m0, m1⟩ | go_keep) (fun hHeld => ?_)
          clear hK K
          try simp only [Act.put, List.getElem_toArray, List.getElem_cons_succ, List.getElem_cons_zero, List.setIfInBounds_toArray, List.set_cons_zero, List.set_cons_succ]
          refine tkz 14 rfl ?_
          refine tkz 15 rfl ?_
          refine tkz 18 rfl ?_
          refine tkz 19 rfl ?_
          refine wpAnyH_done (by kernel_rfl) ?_ _
          clear m0 m1
          go_wp2_with fail
          go_roundw
          case rel => exact ⟨k + 1, by simp, by omega, FO.out, FMb.out, FMa.out, FMc.out, F0.out, F1.out, F3.out, F4.out, F5.out, F6.out, FB.out⟩
          case measure => simp [intOf]; omega
    · have hd : decide ((k : Int) < 3) = false := decide_eq_false (by omega)
      clear HE hlt
      go_wp2_with fail
      go_loopw [16] (fun ii wr => ∃ (i : Nat), ii = .int .i64 (i : Int) ∧ i ≤ n ∧ Own wr w.heap.size (.slice ra n rc) l ∧ Own wr w.heap.size (.slice ab n cb) mb ∧ Own wr w.heap.size (.slice aa n ca) ma ∧ Own wr w.heap.size (.slice ao n co) mo ∧ Blk wr b1 [.int .i64 h.fl, .int .i64 h.gp, .int .i64 h.ln, .int .i64 h.rf, .int .i64 h.sp, .int .i64 h.pu, .int .i64 h.br, .int .i64 h.dr, .int .i64 h.lv, .int .i64 h.dO, .int .i64 h.ld, .int .i64 h.qu] ∧ Blk wr b2 [.int .i64 nx, .slice ra n rc] ∧ Blk wr b3 [.int .i64 0, .int .i64 0, .int .i64 nx, .slice ab n cb] ∧ Blk wr b4 [.int .i64 0, .int .i64 0, .int .i64 nx, .slice aa n ca] ∧ Blk wr b5 [.int .i64 0, .int .i64 0, .int .i64 nx, .slice ao n co] ∧ Blk wr b6 [.int .i64 nx, .slice ab n cb, .int .i64 nx, .slice aa n ca, .int .i64 nx, .slice ao n co] ∧ Below w.heap.size w wr) (fun ii _ => n - (intOf ii).toNat)
      case atStart => exact ⟨0, rfl, by omega, FO.out, FMb.out, FMa.out, FMc.out, F0.out, F1.out, F3.out, F4.out, F5.out, F6.out, FB.out⟩
      case round =>
        obtain ⟨i, rfl, hin, r_FO, r_FMb, r_FMa, r_FMc, h_F0, h_F1, h_F3, h_F4, h_F5, h_F6, hB⟩ := hrel
        clear F0 F1 F3 F4 F5 F6 FB FO FMb FMa FMc
        have F0 : Hid (Blk wr b1 [.int .i64 h.fl, .int .i64 h.gp, .int .i64 h.ln, .int .i64 h.rf, .int .i64 h.sp, .int .i64 h.pu, .int .i64 h.br, .int .i64 h.dr, .int .i64 h.lv, .int .i64 h.dO, .int .i64 h.ld, .int .i64 h.qu]) := h_F0
        have F1 : Hid (Blk wr b2 [.int .i64 nx, .slice ra n rc]) := h_F1
        have F3 : Hid (Blk wr b3 [.int .i64 0, .int .i64 0, .int .i64 nx, .slice ab n cb]) := h_F3
        have F4 : Hid (Blk wr b4 [.int .i64 0, .int .i64 0, .int .i64 nx, .slice aa n ca]) := h_F4
        have F5 : Hid (Blk wr b5 [.int .i64 0, .int .i64 0, .int .i64 nx, .slice ao n co]) := h_F5
        have F6 : Hid (Blk wr b6 [.int .i64 nx, .slice ab n cb, .int .i64 nx, .slice aa n ca, .int .i64 nx, .slice ao n co]) := h_F6
        have FB : Hid (Below w.heap.size w wr) := hB
        clear h_F0 h_F1 h_F3 h_F4 h_F5 h_F6 hB
        have FO : Hid (Own wr w.heap.size (.slice ra n rc) l) := r_FO
        have FMb : Hid (Own wr w.heap.size (.slice ab n cb) mb) := r_FMb
        have FMa : Hid (Own wr w.heap.size (.slice aa n ca) ma) := r_FMa
        have FMc : Hid (Own wr w.heap.size (.slice ao n co) mo) := r_FMc
        clear r_FO r_FMb r_FMa r_FMc
        have y11 := F1.out.c 1 _ rfl
        have y43 := F4.out.c 3 _ rfl
        by_cases hlt2 : i < n
        · have hd2 : decide ((i : Int) < (n : Int)) = true := decide_eq_true (by omega)
          have hi2 : (i : Int) < (n : Int) := by omega
          obtain ⟨p, hp⟩ : ∃ p, l[i]? = some p := ⟨_, List.getElem?_eq_getElem (by rw [HN.out]; exact hlt2)⟩
          obtain ⟨q, hq, e1, e2, e3, e4⟩ := HS.out i p hp
          obtain ⟨g, gc, hv, -⟩ := FO.out.cases.resolve_left (fun e => by have h2 := HN.out; rw [e.2] at h2; simp at h2; omega)
          obtain ⟨u, uc, hv2, -⟩ := FMa.out.cases.resolve_left (fun e => by have h2 := PA.out.len; rw [e.2] at h2; simp at h2; omega)
          injection hv with v1 v2 v3
          injection hv2 with u1 u2 u3
          subst v1 u1
          have OW1 : Ow wr w.heap.size g n rc l := ⟨HN.out, by have z9 := FO.out; unfold Own at z9; rw [HN.out] at z9; exact z9⟩
          have OW2 : Ow wr w.heap.size u n ca ma := ⟨PA.out.len, by have z9 := FMa.out; unfold Own at z9; rw [PA.out.len] at z9; exact z9⟩
          have FP2 : Hid (P7 wr u (i * 7) q) := OW2.p7 hq
          have lu : u < wr.heap.size := OW2.bl.2
          obtain ⟨c0, c1, c2_, c3_, c4, c5, c6⟩ := OW1.p7 hp
          clear v2 v3 u2 u3 hp hq OW1 OW2
          go_upto_region 27 with fail
          clear c0 c1 c2_ c3_ c4 c5 c6 y11 y43
          have FB0 := FB
          obtain ⟨b7, hbb⟩ : ∃ b7, b7 = wr.heap.size := ⟨_, rfl⟩
          obtain ⟨wp, hw2⟩ : ∃ wp, wp = wr.alloc (.cells #[.int .i64 p.id, .int .i64 p.fr, .int .i64 p.tw, .int .i64 p.sh, .int .i64 p.ca, .int .i64 p.st, .int .i64 p.pl] 42) := ⟨_, rfl⟩
          have nb7b1 : b1 < b7 := by rw [hbb]; exact F0.out.lt
          have nb7b2 : b2 < b7 := by rw [hbb]; exact F1.out.lt
          have nb7b3 : b3 < b7 := by rw [hbb]; exact F3.out.lt
          have nb7b4 : b4 < b7 := by rw [hbb]; exact F4.out.lt
          have nb7b5 : b5 < b7 := by rw [hbb]; exact F5.out.lt
          have nb7b6 : b6 < b7 := by rw [hbb]; exact F6.out.lt
          have F0 : Hid (Blk wp b1 [.int .i64 h.fl, .int .i64 h.gp, .int .i64 h.ln, .int .i64 h.rf, .int .i64 h.sp, .int .i64 h.pu, .int .i64 h.br, .int .i64 h.dr, .int .i64 h.lv, .int .i64 h.dO, .int .i64 h.ld, .int .i64 h.qu]) := by rw [hw2]; exact F0.out.alloc _
          have F1 : Hid (Blk wp b2 [.int .i64 nx, .slice (some ⟨g, 0, none⟩) n rc]) := by rw [hw2]; exact F1.out.alloc _
          have F3 : Hid (Blk wp b3 [.int .i64 0, .int .i64 0, .int .i64 nx, .slice ab n cb]) := by rw [hw2]; exact F3.out.alloc _
          have F4 : Hid (Blk wp b4 [.int .i64 0, .int .i64 0, .int .i64 nx, .slice (some ⟨u, 0, none⟩) n ca]) := by rw [hw2]; exact F4.out.alloc _
          have F5 : Hid (Blk wp b5 [.int .i64 0, .int .i64 0, .int .i64 nx, .slice ao n co]) := by rw [hw2]; exact F5.out.alloc _
          have F6 : Hid (Blk wp b6 [.int .i64 nx, .slice ab n cb, .int .i64 nx, .slice (some ⟨u, 0, none⟩) n ca, .int .i64 nx, .slice ao n co]) := by rw [hw2]; exact F6.out.alloc _
          have FP2 : Hid (P7 wp u (i * 7) q) := by rw [hw2]; exact FP2.out.alloc _
          have F7 : Hid (Blk wp b7 [.int .i64 p.id, .int .i64 p.fr, .int .i64 p.tw, .int .i64 p.sh, .int .i64 p.ca, .int .i64 p.st, .int .i64 p.pl]) := by rw [hw2]; exact Blk.at_ wr #[.int .i64 p.id, .int .i64 p.fr, .int .i64 p.tw, .int .i64 p.sh, .int .i64 p.ca, .int .i64 p.st, .int .i64 p.pl] _ _ hbb
          have FO : Hid (Own wp w.heap.size (.slice (some ⟨g, 0, none⟩) n rc) l) := by rw [hw2]; exact FO.out.alloc _
          have FMb : Hid (Own wp w.heap.size (.slice ab n cb) mb) := by rw [hw2]; exact FMb.out.alloc _
          have FMa : Hid (Own wp w.heap.size (.slice (some ⟨u, 0, none⟩) n ca) ma) := by rw [hw2]; exact FMa.out.alloc _
          have FMc : Hid (Own wp w.heap.size (.slice ao n co) mo) := by rw [hw2]; exact FMc.out.alloc _
          have FB : Hid (Below w.heap.size w wp) := by rw [hw2]; exact FB.out.alloc FB.out.size _
          have leb7 : w.heap.size ≤ b7 := by rw [hbb]; exact FB0.out.size
          (try simp only [Act.put])
          rw [← hw2, ← hbb]
          clear hbb hw2 FB0
          have y43 := F4.out.c 3 _ rfl
          have y70 := F7.out.c 0 _ rfl
          have y71 := F7.out.c 1 _ rfl
          have y72 := F7.out.c 2 _ rfl
          by_cases hs2 : q.st = 2
          case pos =>
            have hb2s : (q.st == 2) = true := by simp [hs2]
            have hpl : q.pl = p.tw := (e4 hs2).trans e3
            obtain ⟨c0, c1, c2_, c3_, c4, c5, c6⟩ := FP2.out
            rw [e1] at c0
            rw [e2] at c1
            rw [e3] at c2_
            rw [hpl] at c6
            clear e1 e2 e3 e4 hs2 hpl FP2
            go_upto_region 28 with fail
            clear c0 c1 c2_ c3_ c4 c5 c6 y43 y70 y71 y72
            have FB0 := FB
            obtain ⟨b8, hbb⟩ : ∃ b8, b8 = wp.heap.size := ⟨_, rfl⟩
            obtain ⟨wo, hw2⟩ : ∃ wo, wo = wp.alloc (.cells #[.int .i64 p.id, .int .i64 p.fr, .int .i64 p.tw, .int .i64 q.sh, .int .i64 q.ca, .int .i64 q.st, .int .i64 p.tw] 42) := ⟨_, rfl⟩
            have nb8b1 : b1 < b8 := by rw [hbb]; exact F0.out.lt
            have nb8b2 : b2 < b8 := by rw [hbb]; exact F1.out.lt
            have nb8b3 : b3 < b8 := by rw [hbb]; exact F3.out.lt
            have nb8b4 : b4 < b8 := by rw [hbb]; exact F4.out.lt
            have nb8b5 : b5 < b8 := by rw [hbb]; exact F5.out.lt
            have nb8b6 : b6 < b8 := by rw [hbb]; exact F6.out.lt
            have nb8b7 : b7 < b8 := by rw [hbb]; exact F7.out.lt
            have F0 : Hid (Blk wo b1 [.int .i64 h.fl, .int .i64 h.gp, .int .i64 h.ln, .int .i64 h.rf, .int .i64 h.sp, .int .i64 h.pu, .int .i64 h.br, .int .i64 h.dr, .int .i64 h.lv, .int .i64 h.dO, .int .i64 h.ld, .int .i64 h.qu]) := by rw [hw2]; exact F0.out.alloc _
            have F1 : Hid (Blk wo b2 [.int .i64 nx, .slice (some ⟨g, 0, none⟩) n rc]) := by rw [hw2]; exact F1.out.alloc _
            have F3 : Hid (Blk wo b3 [.int .i64 0, .int .i64 0, .int .i64 nx, .slice ab n cb]) := by rw [hw2]; exact F3.out.alloc _
            have F4 : Hid (Blk wo b4 [.int .i64 0, .int .i64 0, .int .i64 nx, .slice (some ⟨u, 0, none⟩) n ca]) := by rw [hw2]; exact F4.out.alloc _
            have F5 : Hid (Blk wo b5 [.int .i64 0, .int .i64 0, .int .i64 nx, .slice ao n co]) := by rw [hw2]; exact F5.out.alloc _
            have F6 : Hid (Blk wo b6 [.int .i64 nx, .slice ab n cb, .int .i64 nx, .slice (some ⟨u, 0, none⟩) n ca, .int .i64 nx, .slice ao n co]) := by rw [hw2]; exact F6.out.alloc _
            have F7 : Hid (Blk wo b7 [.int .i64 p.id, .int .i64 p.fr, .int .i64 p.tw, .int .i64 p.sh, .int .i64 p.ca, .int .i64 p.st, .int .i64 p.pl]) := by rw [hw2]; exact F7.out.alloc _
            have F8 : Hid (Blk wo b8 [.int .i64 p.id, .int .i64 p.fr, .int .i64 p.tw, .int .i64 q.sh, .int .i64 q.ca, .int .i64 q.st, .int .i64 p.tw]) := by rw [hw2]; exact Blk.at_ wp #[.int .i64 p.id, .int .i64 p.fr, .int .i64 p.tw, .int .i64 q.sh, .int .i64 q.ca, .int .i64 q.st, .int .i64 p.tw] _ _ hbb
            have FO : Hid (Own wo w.heap.size (.slice (some ⟨g, 0, none⟩) n rc) l) := by rw [hw2]; exact FO.out.alloc _
            have FMb : Hid (Own wo w.heap.size (.slice ab n cb) mb) := by rw [hw2]; exact FMb.out.alloc _
            have FMa : Hid (Own wo w.heap.size (.slice (some ⟨u, 0, none⟩) n ca) ma) := by rw [hw2]; exact FMa.out.alloc _
            have FMc : Hid (Own wo w.heap.size (.slice ao n co) mo) := by rw [hw2]; exact FMc.out.alloc _
            have FB : Hid (Below w.heap.size w wo) := by rw [hw2]; exact FB.out.alloc FB.out.size _
            have leb8 : w.heap.size ≤ b8 := by rw [hbb]; exact FB0.out.size
            (try simp only [Act.put])
            rw [← hw2, ← hbb]
            clear hbb hw2 FB0
            have y70 := F7.out.c 0 _ rfl
            have y71 := F7.out.c 1 _ rfl
            have y72 := F7.out.c 2 _ rfl
            have y80 := F8.out.c 0 _ rfl
            have y81 := F8.out.c 1 _ rfl
            have y82 := F8.out.c 2 _ rfl
            have y85 := F8.out.c 5 _ rfl
            have y86 := F8.out.c 6 _ rfl
            go_wp2_with fail
            go_roundw
            case rel => exact ⟨i + 1, by simp, by omega, FO.out, FMb.out, FMa.out, FMc.out, F0.out, F1.out, F3.out, F4.out, F5.out, F6.out, FB.out⟩
            case measure => simp [intOf]; omega
          case neg =>
            have hb2s : (q.st == 2) = false := by simpa using hs2
            obtain ⟨c0, c1, c2_, c3_, c4, c5, c6⟩ := FP2.out
            rw [e1] at c0
            rw [e2] at c1
            rw [e3] at c2_
            clear e1 e2 e3 e4 hs2 FP2
            go_upto_region 28 with fail
            clear c0 c1 c2_ c3_ c4 c5 c6 y43 y70 y71 y72
            have FB0 := FB
            obtain ⟨b8, hbb⟩ : ∃ b8, b8 = wp.heap.size := ⟨_, rfl⟩
            obtain ⟨wo, hw2⟩ : ∃ wo, wo = wp.alloc (.cells #[.int .i64 p.id, .int .i64 p.fr, .int .i64 p.tw, .int .i64 q.sh, .int .i64 q.ca, .int .i64 q.st, .int .i64 q.pl] 42) := ⟨_, rfl⟩
            have nb8b1 : b1 < b8 := by rw [hbb]; exact F0.out.lt
            have nb8b2 : b2 < b8 := by rw [hbb]; exact F1.out.lt
            have nb8b3 : b3 < b8 := by rw [hbb]; exact F3.out.lt
            have nb8b4 : b4 < b8 := by rw [hbb]; exact F4.out.lt
            have nb8b5 : b5 < b8 := by rw [hbb]; exact F5.out.lt
            have nb8b6 : b6 < b8 := by rw [hbb]; exact F6.out.lt
            have nb8b7 : b7 < b8 := by rw [hbb]; exact F7.out.lt
            have F0 : Hid (Blk wo b1 [.int .i64 h.fl, .int .i64 h.gp, .int .i64 h.ln, .int .i64 h.rf, .int .i64 h.sp, .int .i64 h.pu, .int .i64 h.br, .int .i64 h.dr, .int .i64 h.lv, .int .i64 h.dO, .int .i64 h.ld, .int .i64 h.qu]) := by rw [hw2]; exact F0.out.alloc _
            have F1 : Hid (Blk wo b2 [.int .i64 nx, .slice (some ⟨g, 0, none⟩) n rc]) := by rw [hw2]; exact F1.out.alloc _
            have F3 : Hid (Blk wo b3 [.int .i64 0, .int .i64 0, .int .i64 nx, .slice ab n cb]) := by rw [hw2]; exact F3.out.alloc _
            have F4 : Hid (Blk wo b4 [.int .i64 0, .int .i64 0, .int .i64 nx, .slice (some ⟨u, 0, none⟩) n ca]) := by rw [hw2]; exact F4.out.alloc _
            have F5 : Hid (Blk wo b5 [.int .i64 0, .int .i64 0, .int .i64 nx, .slice ao n co]) := by rw [hw2]; exact F5.out.alloc _
            have F6 : Hid (Blk wo b6 [.int .i64 nx, .slice ab n cb, .int .i64 nx, .slice (some ⟨u, 0, none⟩) n ca, .int .i64 nx, .slice ao n co]) := by rw [hw2]; exact F6.out.alloc _
            have F7 : Hid (Blk wo b7 [.int .i64 p.id, .int .i64 p.fr, .int .i64 p.tw, .int .i64 p.sh, .int .i64 p.ca, .int .i64 p.st, .int .i64 p.pl]) := by rw [hw2]; exact F7.out.alloc _
            have F8 : Hid (Blk wo b8 [.int .i64 p.id, .int .i64 p.fr, .int .i64 p.tw, .int .i64 q.sh, .int .i64 q.ca, .int .i64 q.st, .int .i64 q.pl]) := by rw [hw2]; exact Blk.at_ wp #[.int .i64 p.id, .int .i64 p.fr, .int .i64 p.tw, .int .i64 q.sh, .int .i64 q.ca, .int .i64 q.st, .int .i64 q.pl] _ _ hbb
            have FO : Hid (Own wo w.heap.size (.slice (some ⟨g, 0, none⟩) n rc) l) := by rw [hw2]; exact FO.out.alloc _
            have FMb : Hid (Own wo w.heap.size (.slice ab n cb) mb) := by rw [hw2]; exact FMb.out.alloc _
            have FMa : Hid (Own wo w.heap.size (.slice (some ⟨u, 0, none⟩) n ca) ma) := by rw [hw2]; exact FMa.out.alloc _
            have FMc : Hid (Own wo w.heap.size (.slice ao n co) mo) := by rw [hw2]; exact FMc.out.alloc _
            have FB : Hid (Below w.heap.size w wo) := by rw [hw2]; exact FB.out.alloc FB.out.size _
            have leb8 : w.heap.size ≤ b8 := by rw [hbb]; exact FB0.out.size
            (try simp only [Act.put])
            rw [← hw2, ← hbb]
            clear hbb hw2 FB0
            have y70 := F7.out.c 0 _ rfl
            have y71 := F7.out.c 1 _ rfl
            have y72 := F7.out.c 2 _ rfl
            have y80 := F8.out.c 0 _ rfl
            have y81 := F8.out.c 1 _ rfl
            have y82 := F8.out.c 2 _ rfl
            have y85 := F8.out.c 5 _ rfl
            have y86 := F8.out.c 6 _ rfl
            go_wp2_with fail
            go_roundw
            case rel => exact ⟨i + 1, by simp, by omega, FO.out, FMb.out, FMa.out, FMc.out, F0.out, F1.out, F3.out, F4.out, F5.out, F6.out, FB.out⟩
            case measure => simp [intOf]; omega
        · have hd2 : decide ((i : Int) < (n : Int)) = false := decide_eq_false (by omega)
          have hi2 : (n : Int) ≤ (i : Int) := by omega
          have CL : ∀ W, PIn W W.heap.size ao mo → Calls Try.prog 12 #[.agg #[.int .i64 h.fl, .int .i64 h.gp, .int .i64 h.ln, .int .i64 h.rf, .int .i64 h.sp, .int .i64 h.pu, .int .i64 h.br, .int .i64 h.dr, .int .i64 h.lv, .int .i64 h.dO, .int .i64 h.ld, .int .i64 h.qu], .agg #[.int .i64 nx, .slice ao n co], .int .i64 x, .int .i64 y] W fun e w' => ∃ la lc, e = .returned (.agg #[.int .i64 0, .slice la 0 lc]) ∧ Below W.heap.size W w' := fun W hW => by
            have hs := PO.out.len
            have pl := PO.out.ask0
            have hr := HNO.out
            subst hs
            exact load_list h nx mo x y ao co hl60 pl 0 hr W hW
          have fi := fieldP1
          have y40 := F4.out.c 0 _ rfl
          have y50 := F5.out.c 0 _ rfl
          clear hlt2
          go_wp2_with (first | (refine load_blkP 25 _ Try.underlying25 (by kernel_rfl) F0.out (by kernel_rfl) rfl rfl ?_) | (refine load_midP 28 _ 2 [.int .i64 nx, .slice ao n co] Try.underlying28 (by kernel_rfl) F5.out rfl (by kernel_rfl) rfl rfl ?_) | (go_at_call 12; refine (CL _ FMc.out.pinP).mono ?_; rintro e we ⟨la, lc, rfl, hb⟩; have FB : Hid (Below w.heap.size w we) := FB.out.trans (hb.mono FB.out.size); clear hb))
          go_ret
          exact ⟨by first | rfl | simp, FB.out⟩
set_option maxRecDepth 20000 in
set_option maxHeartbeats 32000000 in
theorem people_big (a0 : Option Addr) (len0 cap0 : Nat) (w : World) (hbig : ¬ len0 ≤ 1048576) (hm : len0 ≤ maxLen) :
    Calls Try.prog 3 #[.slice a0 len0 cap0] w fun e w' => e = .returned (.bool true) ∧ Below w.heap.size w w' := by
  go_enter Try.func3, Try.ntmps3
  go_wp2_with (go_at_call 4; refine (lwBig_yes _ _ _ (by omega) hm _).mono ?_; rintro e w' ⟨rfl, rfl⟩)
  go_ret
  exact ⟨rfl, Below.refl _ _⟩
end Go.Proofs.Ytoekhkolakielaa
