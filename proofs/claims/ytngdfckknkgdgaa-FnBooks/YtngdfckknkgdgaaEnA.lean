/-
  Energies: what the model answers.
-/
import Derived.Test.YtngdfckknkgdgaaEnP
import Derived.Test.YtngdfckknkgdgaaFnd
import Derived.Test.YtngdfckknkgdgaaHouseN
import Derived.Test.YtngdfckknkgdgaaCarB
import Derived.Test.YtngdfckknkgdgaaHouseE
import Derived.Deep.MidRow
import Derived.BigQuiet
import Derived.Deep.QuietTactic
namespace Go.Proofs.Ytngdfckknkgdgaa
open Go.RowKit Pl
set_option linter.unusedSimpArgs false
set_option linter.unusedVariables false

theorem Blk.mid {w : World} {b : Nat} {vs : List Value} (hB : Blk w b vs) (o : Nat) (cs : List Value) (h : (vs.drop o).take cs.length = cs) : w.rangeAt b o cs := by
  intro j v hv
  have e : (vs.drop o)[j]? = some v := by
    rw [← h] at hv
    rw [List.getElem?_take] at hv
    split at hv
    · exact hv
    · cases hv
  rw [List.getElem?_drop] at e
  exact hB.c (o + j) v e
theorem load_mid {ops : Array Oper} {rest : List Oper} {op : Oper} {a : Act} {w : World} {Q : Exit → Act → World → Prop} {b : Nat} {vs : List Value} (T : TypeId) (x : Operand) (o : Nat) (cs : List Value) {fs : Array Field} (hu : Try.prog.underlying T = some (.struct fs)) (hi : (Try.prog.info? T).map (·.size) = some cs.length) (hB : Blk w b vs) (hc : (vs.drop o).take cs.length = cs)
    (hgd : op.guard = none) (ho : op.op = .load T x) (hx : a.eval x = .pointer (some ⟨b, o, none⟩)) (h : wpList Try.prog ops Q rest (a.put op.dst (.agg cs.toArray)) w) : wpList Try.prog ops Q (op :: rest) a w :=
  wpList_load_mid hgd T x ho b o hx cs (.struct fs) (hB.mid o cs hc) hu rfl hi h
theorem exec_load_mid {op : Oper} {a : Act} {w : World} {b : Nat} {vs : List Value} (T : TypeId) (x : Operand) (o : Nat) (cs : List Value) {fs : Array Field} (hu : Try.prog.underlying T = some (.struct fs)) (hi : (Try.prog.info? T).map (·.size) = some cs.length) (hc : (vs.drop o).take cs.length = cs)
    (ho : op.op = .load T x) (hx : a.eval x = .pointer (some ⟨b, o, none⟩)) (hB : Blk w b vs) : (execOp a.eval op).run Try.prog w = .ok (.value (.agg cs.toArray)) w := by
  unfold execOp
  simp only [ho, hx, Instr.loadAt, Instr.sureAddr, Sem.run_bind, Sem.run_pure, Result.andThen_ok, run_loadVar_mid w b o T cs (.struct fs) (hB.mid o cs hc) hu rfl hi]
theorem ret_i {a b : Int} (h : a = b) : Ending.returned (.int .i64 a) = .returned (.int .i64 b) := by rw [h]
theorem ret_two {a b c d : Int} (h : a = b) (k : c = d) : Ending.returned (.agg #[.int .i64 a, .int .i64 c]) = .returned (.agg #[.int .i64 b, .int .i64 d]) := by rw [h, k]
theorem l13Mass_any (r : Int) (r1 : 0 ≤ r) (r2 : r ≤ 20) (w : World) :
    Calls Try.prog 31 #[.int .i64 r] w fun e w' => e = .returned (.int .i64 (massN r)) ∧ w' = w := by
  unfold massN
  go_enter Try.func31, Try.ntmps31
  go_wp2
  go_ret
  exact ⟨rfl, rfl⟩
set_option maxRecDepth 20000 in
set_option maxHeartbeats 4000000 in
theorem l13Asked_any (h : Hs) (c : Cs) (r : Int) (w : World) :
    Calls Try.prog 34 #[.agg #[.int .i64 h.fl, .int .i64 h.gp, .int .i64 h.ln, .int .i64 h.rf, .int .i64 h.sp, .int .i64 h.pu, .int .i64 h.br, .int .i64 h.dr, .int .i64 h.lv, .int .i64 h.dO, .int .i64 h.ld, .int .i64 h.qu], .agg #[.int .i64 c.pos, .int .i64 c.vel, .int .i64 c.door], .int .i64 r] w fun e w' => e = .returned (.int .i64 (Hs.askK h c r)) ∧ Below w.heap.size w w' := by
  obtain ⟨K, hK⟩ : ∃ K, Hs.askK h c r = K := ⟨_, rfl⟩
  have HK0 : Hid (Hs.askK h c r = K) := hK
  rw [hK]
  clear hK
  obtain ⟨kc, hkc⟩ : ∃ kc, h.car c = kc := ⟨_, rfl⟩
  have HC : Hid (h.car c = kc) := hkc
  clear hkc
  obtain ⟨b0, hb0⟩ : ∃ b0, b0 = w.heap.size := ⟨_, rfl⟩
  obtain ⟨b1, hb1⟩ : ∃ b1, b1 = b0 + 1 := ⟨_, rfl⟩
  obtain ⟨W0, hW0⟩ : ∃ W0, W0 = (w.alloc (.cells #[.int .i64 h.fl, .int .i64 h.gp, .int .i64 h.ln, .int .i64 h.rf, .int .i64 h.sp, .int .i64 h.pu, .int .i64 h.br, .int .i64 h.dr, .int .i64 h.lv, .int .i64 h.dO, .int .i64 h.ld, .int .i64 h.qu] 27)).alloc (.cells #[.int .i64 c.pos, .int .i64 c.vel, .int .i64 c.door] 34) := ⟨_, rfl⟩
  have F0 : Hid (Blk W0 b0 [.int .i64 h.fl, .int .i64 h.gp, .int .i64 h.ln, .int .i64 h.rf, .int .i64 h.sp, .int .i64 h.pu, .int .i64 h.br, .int .i64 h.dr, .int .i64 h.lv, .int .i64 h.dO, .int .i64 h.ld, .int .i64 h.qu]) := by rw [hW0]; exact ((Blk.at_ _ #[.int .i64 h.fl, .int .i64 h.gp, .int .i64 h.ln, .int .i64 h.rf, .int .i64 h.sp, .int .i64 h.pu, .int .i64 h.br, .int .i64 h.dr, .int .i64 h.lv, .int .i64 h.dO, .int .i64 h.ld, .int .i64 h.qu] _ _ hb0).alloc _)
  have F1 : Hid (Blk W0 b1 [.int .i64 c.pos, .int .i64 c.vel, .int .i64 c.door]) := by rw [hW0]; exact (Blk.at_ _ #[.int .i64 c.pos, .int .i64 c.vel, .int .i64 c.door] _ _ (by simp; omega))
  have FB : Hid (Below w.heap.size w W0) := by rw [hW0]; exact (((Below.refl _ _).alloc (Nat.le_refl _) _).alloc (by simp) _)
  have leb0 : w.heap.size ≤ b0 := by omega
  have leb1 : w.heap.size ≤ b1 := by omega
  have l01 : b0 < b1 := by omega
  go_enter Try.func34, Try.ntmps34
  go_upto_region 1 with fail
  rw [← hb0, ← hb1, ← hW0]
  clear hb0 hb1 hW0
  go_upto_region 2 with (first | (refine load_blk 27 _ Try.underlying27 (by kernel_rfl) F0.out rfl rfl rfl ?_) | (refine load_blk 34 _ Try.underlying34 (by kernel_rfl) F1.out rfl rfl rfl ?_) | (go_at_call 62; refine (specCarFault_any h c _).mono ?_; rw [HC.out]; rintro e w1 ⟨rfl, hb⟩; have F0 : Hid (Blk w1 b0 [.int .i64 h.fl, .int .i64 h.gp, .int .i64 h.ln, .int .i64 h.rf, .int .i64 h.sp, .int .i64 h.pu, .int .i64 h.br, .int .i64 h.dr, .int .i64 h.lv, .int .i64 h.dO, .int .i64 h.ld, .int .i64 h.qu]) := F0.out.below hb F0.out.lt; have F1 : Hid (Blk w1 b1 [.int .i64 c.pos, .int .i64 c.vel, .int .i64 c.door]) := F1.out.below hb F1.out.lt; have FB : Hid (Below w.heap.size w w1) := FB.out.trans (hb.mono FB.out.size); clear hb))
  by_cases hz : kc = 0
  case neg =>
    have hn : (kc != 0) = true := by simpa using hz
    have EK : Hid (kc = K) := by show kc = K; rw [← HK0.out, Hs.ask_car (by rw [HC.out]; exact hz), HC.out]
    go_wp2
    go_ret
    exact ⟨ret_i EK.out, FB.out⟩
  case pos =>
  subst hz
  have c10 := F0.out.c 10 _ rfl
  cases hi : inB r 0 h.ld with
  | false =>
    have EK : Hid ((3 : Int) = K) := by show (3 : Int) = K; rw [← HK0.out, Hs.ask_out HC.out hi]
    go_wp2_with (go_at_call 30; refine (l1In_any _ _ _ _).mono ?_; rw [hi]; rintro e w' ⟨rfl, hw⟩; obtain rfl := hw.symm; clear hw)
    go_ret
    exact ⟨ret_i EK.out, FB.out⟩
  | true =>
    have EK : Hid ((0 : Int) = K) := by show (0 : Int) = K; rw [← HK0.out, Hs.ask_in HC.out hi]
    go_wp2_with (go_at_call 30; refine (l1In_any _ _ _ _).mono ?_; rw [hi]; rintro e w' ⟨rfl, hw⟩; obtain rfl := hw.symm; clear hw)
    go_ret
    exact ⟨ret_i EK.out, FB.out⟩
set_option maxRecDepth 20000 in
set_option maxHeartbeats 4000000 in
theorem l13Moving_any (h : Hs) (c : Cs) (r : Int) (k : Nr h c) (r1 : 0 ≤ r) (r2 : r ≤ 20) (w : World) :
    Calls Try.prog 35 #[.agg #[.int .i64 c.pos, .int .i64 c.vel, .int .i64 c.door], .int .i64 r] w fun e w' => e = .returned (.int .i64 (movE c r)) ∧ Below w.heap.size w w' := by
  have HE : Hid (wrap64 (wrap64 (massN r * c.vel) * c.vel) = movE c r) := (k.mov r1 r2).1
  clear k
  obtain ⟨b1, hb1⟩ : ∃ b1, b1 = w.heap.size := ⟨_, rfl⟩
  obtain ⟨W0, hW0⟩ : ∃ W0, W0 = w.alloc (.cells #[.int .i64 c.pos, .int .i64 c.vel, .int .i64 c.door] 34) := ⟨_, rfl⟩
  have F1 : Hid (Blk W0 b1 [.int .i64 c.pos, .int .i64 c.vel, .int .i64 c.door]) := by rw [hW0]; exact (Blk.at_ _ #[.int .i64 c.pos, .int .i64 c.vel, .int .i64 c.door] _ _ hb1)
  have FB : Hid (Below w.heap.size w W0) := by rw [hW0]; exact ((Below.refl _ _).alloc (Nat.le_refl _) _)
  have leb1 : w.heap.size ≤ b1 := by omega
  go_enter Try.func35, Try.ntmps35
  go_upto_region 1 with fail
  rw [← hb1, ← hW0]
  clear hb1 hW0
  have c1 := F1.out.c 1 _ rfl
  go_quiet ((go_at_call 31; exact Calls.quiet_of_same (l13Mass_any r r1 r2 _)))
  obtain ⟨W2, hW2⟩ : ∃ W2, W2 = W0.drewN nq := ⟨_, rfl⟩
  have FB2 : Hid (Below w.heap.size w W2) := by rw [hW2]; exact ⟨FB.out.os, FB.out.tape, FB.out.output, FB.out.size, FB.out.block⟩
  rw [← hW2]
  clear hW2
  go_wp2
  go_ret
  exact ⟨ret_i HE.out, FB2.out⟩
set_option maxRecDepth 20000 in
set_option maxHeartbeats 16000000 in
theorem l13Raised_any (h : Hs) (o : h.Ok) (c : Cs) (r : Int) (k : Nr h c) (r1 : 0 ≤ r) (r2 : r ≤ 20) (w : World) :
    Calls Try.prog 38 #[.agg #[.int .i64 h.fl, .int .i64 h.gp, .int .i64 h.ln, .int .i64 h.rf, .int .i64 h.sp, .int .i64 h.pu, .int .i64 h.br, .int .i64 h.dr, .int .i64 h.lv, .int .i64 h.dO, .int .i64 h.ld, .int .i64 h.qu], .agg #[.int .i64 c.pos, .int .i64 c.vel, .int .i64 c.door], .int .i64 r] w fun e w' => e = .returned (.int .i64 (raiE h c r)) ∧ Below w.heap.size w w' := by
  have HE : Hid (IntKind.i64.wrap (massN r * 20 * (c.pos - h.low)) = raiE h c r) := IntWalk.i64_in _ (by have q := (k.rai o r1 r2).2; unfold raiE at q; omega)
  have HO : Hid h.Ok := o
  have en := o.ends
  have kp := k.pos o
  have mb := mass_bd r1 r2
  have e1 : IntKind.i64.wrap (massN r * 20) = massN r * 20 := IntWalk.i64_in _ (by omega)
  have e2 : IntKind.i64.wrap (c.pos - h.low) = c.pos - h.low := IntWalk.i64_in _ (by omega)
  clear o k
  obtain ⟨b0, hb0⟩ : ∃ b0, b0 = w.heap.size := ⟨_, rfl⟩
  obtain ⟨b1, hb1⟩ : ∃ b1, b1 = b0 + 1 := ⟨_, rfl⟩
  obtain ⟨W0, hW0⟩ : ∃ W0, W0 = (w.alloc (.cells #[.int .i64 h.fl, .int .i64 h.gp, .int .i64 h.ln, .int .i64 h.rf, .int .i64 h.sp, .int .i64 h.pu, .int .i64 h.br, .int .i64 h.dr, .int .i64 h.lv, .int .i64 h.dO, .int .i64 h.ld, .int .i64 h.qu] 27)).alloc (.cells #[.int .i64 c.pos, .int .i64 c.vel, .int .i64 c.door] 34) := ⟨_, rfl⟩
  have F0 : Hid (Blk W0 b0 [.int .i64 h.fl, .int .i64 h.gp, .int .i64 h.ln, .int .i64 h.rf, .int .i64 h.sp, .int .i64 h.pu, .int .i64 h.br, .int .i64 h.dr, .int .i64 h.lv, .int .i64 h.dO, .int .i64 h.ld, .int .i64 h.qu]) := by rw [hW0]; exact ((Blk.at_ _ #[.int .i64 h.fl, .int .i64 h.gp, .int .i64 h.ln, .int .i64 h.rf, .int .i64 h.sp, .int .i64 h.pu, .int .i64 h.br, .int .i64 h.dr, .int .i64 h.lv, .int .i64 h.dO, .int .i64 h.ld, .int .i64 h.qu] _ _ hb0).alloc _)
  have F1 : Hid (Blk W0 b1 [.int .i64 c.pos, .int .i64 c.vel, .int .i64 c.door]) := by rw [hW0]; exact (Blk.at_ _ #[.int .i64 c.pos, .int .i64 c.vel, .int .i64 c.door] _ _ (by simp; omega))
  have FB : Hid (Below w.heap.size w W0) := by rw [hW0]; exact (((Below.refl _ _).alloc (Nat.le_refl _) _).alloc (by simp) _)
  have leb0 : w.heap.size ≤ b0 := by omega
  have leb1 : w.heap.size ≤ b1 := by omega
  have l01 : b0 < b1 := by omega
  go_enter Try.func38, Try.ntmps38
  go_upto_region 1 with fail
  rw [← hb0, ← hb1, ← hW0]
  clear hb0 hb1 hW0
  have F0 : Hid (Blk W0.drew b0 [.int .i64 h.fl, .int .i64 h.gp, .int .i64 h.ln, .int .i64 h.rf, .int .i64 h.sp, .int .i64 h.pu, .int .i64 h.br, .int .i64 h.dr, .int .i64 h.lv, .int .i64 h.dO, .int .i64 h.ld, .int .i64 h.qu]) := F0.out.below (Below.refl _ _).drew F0.out.lt
  have F1 : Hid (Blk W0.drew b1 [.int .i64 c.pos, .int .i64 c.vel, .int .i64 c.door]) := F1.out.below (Below.refl _ _).drew F1.out.lt
  have FB : Hid (Below w.heap.size w W0.drew) := FB.out.drew
  refine wp_region_held_drew (S := (fun w'' => Blk w'' b0 ([.int .i64 h.fl, .int .i64 h.gp, .int .i64 h.ln, .int .i64 h.rf, .int .i64 h.sp, .int .i64 h.pu, .int .i64 h.br, .int .i64 h.dr, .int .i64 h.lv, .int .i64 h.dO, .int .i64 h.ld, .int .i64 h.qu]) ∧ Blk w'' b1 ([.int .i64 c.pos, .int .i64 c.vel, .int .i64 c.door]))) (by kernel_rfl) (by (try dsimp only); first | exact ⟨F0.out, F1.out⟩ | go_keep) (fun hHeld => ?_)
  obtain ⟨v_1, hw1⟩ : ∃ v_1, v_1 = W0.drew := ⟨_, rfl⟩
  have F0 : Hid (Blk v_1 b0 [.int .i64 h.fl, .int .i64 h.gp, .int .i64 h.ln, .int .i64 h.rf, .int .i64 h.sp, .int .i64 h.pu, .int .i64 h.br, .int .i64 h.dr, .int .i64 h.lv, .int .i64 h.dO, .int .i64 h.ld, .int .i64 h.qu]) := by rw [hw1]; exact F0.out
  have F1 : Hid (Blk v_1 b1 [.int .i64 c.pos, .int .i64 c.vel, .int .i64 c.door]) := by rw [hw1]; exact F1.out
  have FB : Hid (Below w.heap.size w v_1) := by rw [hw1]; exact FB.out
  rw [← hw1] at hHeld ⊢
  clear hw1
  refine tkz 0 rfl ?_
  refine tkz 3 rfl ?_
  refine tkz 4 rfl ?_ (hy := Or.inl ⟨by kernel_rfl, by (intro wx hSw; have hq1_0 := hSw.2.c 0 _ rfl; (try dsimp only at hSw); go_simp <;> with_reducible rfl)⟩)
  refine tkz 5 rfl ?_ (hy := Or.inl ⟨by kernel_rfl, fun wx hSw => exec_load_blk 27 _ Try.underlying27 (by kernel_rfl) rfl rfl hSw.1⟩)
  refine wpAnyH_ready (rs := [1]) (by kernel_rfl) (by simp) ?_
  refine (AllReadyH.cons rfl (fun K hK => ?_) AllReadyH.nil)
  go_simp
  refine (l13Mass_any r r1 r2 _).mono ?_
  rintro e w_ ⟨rfl, hw⟩
  obtain rfl := hw.symm
  clear hw
  try dsimp only
  refine hK.out _ _ (by (try dsimp only); first | exact ⟨F0.out, F1.out⟩ | go_keep) (fun hHeld => ?_)
  clear hK K
  try simp only [Act.put, List.getElem_toArray, List.getElem_cons_succ, List.getElem_cons_zero, List.setIfInBounds_toArray, List.set_cons_zero, List.set_cons_succ]
  refine tkz 2 rfl ?_
  refine wpAnyH_ready (rs := [6]) (by kernel_rfl) (by simp) ?_
  refine (AllReadyH.cons rfl (fun K hK => ?_) AllReadyH.nil)
  go_simp
  refine (specLow_below h HO.out _).mono ?_
  rintro e v_2 ⟨rfl, hb⟩
  have F0 : Hid (Blk v_2 b0 [.int .i64 h.fl, .int .i64 h.gp, .int .i64 h.ln, .int .i64 h.rf, .int .i64 h.sp, .int .i64 h.pu, .int .i64 h.br, .int .i64 h.dr, .int .i64 h.lv, .int .i64 h.dO, .int .i64 h.ld, .int .i64 h.qu]) := F0.out.below hb F0.out.lt
  have F1 : Hid (Blk v_2 b1 [.int .i64 c.pos, .int .i64 c.vel, .int .i64 c.door]) := F1.out.below hb F1.out.lt
  have FB : Hid (Below w.heap.size w v_2) := FB.out.trans (hb.mono FB.out.size)
  clear hb
  try dsimp only
  refine hK.out _ _ (by (try dsimp only); first | exact ⟨F0.out, F1.out⟩ | go_keep) (fun hHeld => ?_)
  clear hK K
  try simp only [Act.put, List.getElem_toArray, List.getElem_cons_succ, List.getElem_cons_zero, List.setIfInBounds_toArray, List.set_cons_zero, List.set_cons_succ]
  refine tkz 7 rfl ?_
  refine tkz 8 rfl ?_
  refine tkz 9 rfl ?_
  refine wpAnyH_done (by kernel_rfl) ?_ _
  go_wp2
  go_ret
  exact ⟨ret_i HE.out, FB.out⟩
set_option maxRecDepth 20000 in
set_option maxHeartbeats 16000000 in
theorem l13Energy_any (h : Hs) (o : h.Ok) (c : Cs) (r : Int) (k : Nr h c) (r1 : 0 ≤ r) (r2 : r ≤ 20) (w : World) :
    Calls Try.prog 40 #[.agg #[.int .i64 h.fl, .int .i64 h.gp, .int .i64 h.ln, .int .i64 h.rf, .int .i64 h.sp, .int .i64 h.pu, .int .i64 h.br, .int .i64 h.dr, .int .i64 h.lv, .int .i64 h.dO, .int .i64 h.ld, .int .i64 h.qu], .agg #[.int .i64 c.pos, .int .i64 c.vel, .int .i64 c.door], .int .i64 r] w fun e w' => e = .returned (.int .i64 (enE h c r)) ∧ Below w.heap.size w w' := by
  have HO : Hid h.Ok := o
  have HN : Hid (Nr h c) := k
  have a := k.mov r1 r2
  have b := k.rai o r1 r2
  have a1 := a.2; have a2 := b.2
  have e1 : IntKind.i64.wrap (movE c r + raiE h c r) = movE c r + raiE h c r := IntWalk.i64_in _ (by omega)
  clear a b o k
  obtain ⟨b0, hb0⟩ : ∃ b0, b0 = w.heap.size := ⟨_, rfl⟩
  obtain ⟨b1, hb1⟩ : ∃ b1, b1 = b0 + 1 := ⟨_, rfl⟩
  obtain ⟨W0, hW0⟩ : ∃ W0, W0 = (w.alloc (.cells #[.int .i64 h.fl, .int .i64 h.gp, .int .i64 h.ln, .int .i64 h.rf, .int .i64 h.sp, .int .i64 h.pu, .int .i64 h.br, .int .i64 h.dr, .int .i64 h.lv, .int .i64 h.dO, .int .i64 h.ld, .int .i64 h.qu] 27)).alloc (.cells #[.int .i64 c.pos, .int .i64 c.vel, .int .i64 c.door] 34) := ⟨_, rfl⟩
  have F0 : Hid (Blk W0 b0 [.int .i64 h.fl, .int .i64 h.gp, .int .i64 h.ln, .int .i64 h.rf, .int .i64 h.sp, .int .i64 h.pu, .int .i64 h.br, .int .i64 h.dr, .int .i64 h.lv, .int .i64 h.dO, .int .i64 h.ld, .int .i64 h.qu]) := by rw [hW0]; exact ((Blk.at_ _ #[.int .i64 h.fl, .int .i64 h.gp, .int .i64 h.ln, .int .i64 h.rf, .int .i64 h.sp, .int .i64 h.pu, .int .i64 h.br, .int .i64 h.dr, .int .i64 h.lv, .int .i64 h.dO, .int .i64 h.ld, .int .i64 h.qu] _ _ hb0).alloc _)
  have F1 : Hid (Blk W0 b1 [.int .i64 c.pos, .int .i64 c.vel, .int .i64 c.door]) := by rw [hW0]; exact (Blk.at_ _ #[.int .i64 c.pos, .int .i64 c.vel, .int .i64 c.door] _ _ (by simp; omega))
  have FB : Hid (Below w.heap.size w W0) := by rw [hW0]; exact (((Below.refl _ _).alloc (Nat.le_refl _) _).alloc (by simp) _)
  have leb0 : w.heap.size ≤ b0 := by omega
  have leb1 : w.heap.size ≤ b1 := by omega
  have l01 : b0 < b1 := by omega
  go_enter Try.func40, Try.ntmps40
  go_upto_region 1 with fail
  rw [← hb0, ← hb1, ← hW0]
  clear hb0 hb1 hW0
  have F0 : Hid (Blk W0.drew b0 [.int .i64 h.fl, .int .i64 h.gp, .int .i64 h.ln, .int .i64 h.rf, .int .i64 h.sp, .int .i64 h.pu, .int .i64 h.br, .int .i64 h.dr, .int .i64 h.lv, .int .i64 h.dO, .int .i64 h.ld, .int .i64 h.qu]) := F0.out.below (Below.refl _ _).drew F0.out.lt
  have F1 : Hid (Blk W0.drew b1 [.int .i64 c.pos, .int .i64 c.vel, .int .i64 c.door]) := F1.out.below (Below.refl _ _).drew F1.out.lt
  have FB : Hid (Below w.heap.size w W0.drew) := FB.out.drew
  refine wp_region_held_drew (S := (fun w'' => Blk w'' b0 ([.int .i64 h.fl, .int .i64 h.gp, .int .i64 h.ln, .int .i64 h.rf, .int .i64 h.sp, .int .i64 h.pu, .int .i64 h.br, .int .i64 h.dr, .int .i64 h.lv, .int .i64 h.dO, .int .i64 h.ld, .int .i64 h.qu]) ∧ Blk w'' b1 ([.int .i64 c.pos, .int .i64 c.vel, .int .i64 c.door]))) (by kernel_rfl) (by (try dsimp only); first | exact ⟨F0.out, F1.out⟩ | go_keep) (fun hHeld => ?_)
  obtain ⟨v_3, hw1⟩ : ∃ v_3, v_3 = W0.drew := ⟨_, rfl⟩
  have F0 : Hid (Blk v_3 b0 [.int .i64 h.fl, .int .i64 h.gp, .int .i64 h.ln, .int .i64 h.rf, .int .i64 h.sp, .int .i64 h.pu, .int .i64 h.br, .int .i64 h.dr, .int .i64 h.lv, .int .i64 h.dO, .int .i64 h.ld, .int .i64 h.qu]) := by rw [hw1]; exact F0.out
  have F1 : Hid (Blk v_3 b1 [.int .i64 c.pos, .int .i64 c.vel, .int .i64 c.door]) := by rw [hw1]; exact F1.out
  have FB : Hid (Below w.heap.size w v_3) := by rw [hw1]; exact FB.out
  rw [← hw1] at hHeld ⊢
  clear hw1
  refine tkz 0 rfl ?_ (hy := Or.inl ⟨by kernel_rfl, fun wx hSw => exec_load_blk 34 _ Try.underlying34 (by kernel_rfl) rfl rfl hSw.2⟩)
  refine tkz 1 rfl ?_
  refine tkz 3 rfl ?_ (hy := Or.inl ⟨by kernel_rfl, fun wx hSw => exec_load_blk 27 _ Try.underlying27 (by kernel_rfl) rfl rfl hSw.1⟩)
  refine tkz 4 rfl ?_ (hy := Or.inl ⟨by kernel_rfl, fun wx hSw => exec_load_blk 34 _ Try.underlying34 (by kernel_rfl) rfl rfl hSw.2⟩)
  refine tkz 5 rfl ?_
  refine wpAnyH_ready (rs := [2]) (by kernel_rfl) (by simp) ?_
  refine (AllReadyH.cons rfl (fun K hK => ?_) AllReadyH.nil)
  go_simp
  refine (l13Moving_any h c r HN.out r1 r2 _).mono ?_
  rintro e v_4 ⟨rfl, hb⟩
  have F0 : Hid (Blk v_4 b0 [.int .i64 h.fl, .int .i64 h.gp, .int .i64 h.ln, .int .i64 h.rf, .int .i64 h.sp, .int .i64 h.pu, .int .i64 h.br, .int .i64 h.dr, .int .i64 h.lv, .int .i64 h.dO, .int .i64 h.ld, .int .i64 h.qu]) := F0.out.below hb F0.out.lt
  have F1 : Hid (Blk v_4 b1 [.int .i64 c.pos, .int .i64 c.vel, .int .i64 c.door]) := F1.out.below hb F1.out.lt
  have FB : Hid (Below w.heap.size w v_4) := FB.out.trans (hb.mono FB.out.size)
  clear hb
  try dsimp only
  refine hK.out _ _ (by (try dsimp only); first | exact ⟨F0.out, F1.out⟩ | go_keep) (fun hHeld => ?_)
  clear hK K
  try simp only [Act.put, List.getElem_toArray, List.getElem_cons_succ, List.getElem_cons_zero, List.setIfInBounds_toArray, List.set_cons_zero, List.set_cons_succ]
  refine wpAnyH_ready (rs := [6]) (by kernel_rfl) (by simp) ?_
  refine (AllReadyH.cons rfl (fun K hK => ?_) AllReadyH.nil)
  go_simp
  refine (l13Raised_any h HO.out c r HN.out r1 r2 _).mono ?_
  rintro e v_5 ⟨rfl, hb⟩
  have F0 : Hid (Blk v_5 b0 [.int .i64 h.fl, .int .i64 h.gp, .int .i64 h.ln, .int .i64 h.rf, .int .i64 h.sp, .int .i64 h.pu, .int .i64 h.br, .int .i64 h.dr, .int .i64 h.lv, .int .i64 h.dO, .int .i64 h.ld, .int .i64 h.qu]) := F0.out.below hb F0.out.lt
  have F1 : Hid (Blk v_5 b1 [.int .i64 c.pos, .int .i64 c.vel, .int .i64 c.door]) := F1.out.below hb F1.out.lt
  have FB : Hid (Below w.heap.size w v_5) := FB.out.trans (hb.mono FB.out.size)
  clear hb
  try dsimp only
  refine hK.out _ _ (by (try dsimp only); first | exact ⟨F0.out, F1.out⟩ | go_keep) (fun hHeld => ?_)
  clear hK K
  try simp only [Act.put, List.getElem_toArray, List.getElem_cons_succ, List.getElem_cons_zero, List.setIfInBounds_toArray, List.set_cons_zero, List.set_cons_succ]
  refine tkz 7 rfl ?_
  refine tkz 8 rfl ?_
  refine wpAnyH_done (by kernel_rfl) ?_ _
  go_wp2
  go_ret
  exact ⟨ret_i (by first | rfl | exact e1), FB.out⟩
set_option maxRecDepth 20000 in
set_option maxHeartbeats 4000000 in
theorem specMovingOf_any (h : Hs) (c : Cs) (r : Int) (w : World) :
    Calls Try.prog 14 #[.agg #[.int .i64 h.fl, .int .i64 h.gp, .int .i64 h.ln, .int .i64 h.rf, .int .i64 h.sp, .int .i64 h.pu, .int .i64 h.br, .int .i64 h.dr, .int .i64 h.lv, .int .i64 h.dO, .int .i64 h.ld, .int .i64 h.qu], .agg #[.int .i64 c.pos, .int .i64 c.vel, .int .i64 c.door], .int .i64 r] w (isAns w (Hs.askK h c r) (if Hs.askK h c r = 0 then movE c r else 0)) := by
  have CA : ∀ W, Calls Try.prog 34 #[.agg #[.int .i64 h.fl, .int .i64 h.gp, .int .i64 h.ln, .int .i64 h.rf, .int .i64 h.sp, .int .i64 h.pu, .int .i64 h.br, .int .i64 h.dr, .int .i64 h.lv, .int .i64 h.dO, .int .i64 h.ld, .int .i64 h.qu], .agg #[.int .i64 c.pos, .int .i64 c.vel, .int .i64 c.door], .int .i64 r] W fun e w' => e = .returned (.int .i64 (Hs.askK h c r)) ∧ Below W.heap.size W w' := fun W => l13Asked_any h c r W
  have HA : Hid (Hs.askK h c r = 0 → CarOk h c ∧ 0 ≤ r ∧ r ≤ 20) := fun z => by
    have a := Hs.ask_zero z
    have q := (Hs.car_zero a.1).ok.ld2
    exact ⟨Hs.car_zero a.1, a.2.1, by omega⟩
  obtain ⟨K, hK⟩ : ∃ K, Hs.askK h c r = K := ⟨_, rfl⟩
  rw [hK] at CA HA ⊢
  clear hK
  obtain ⟨V, hV⟩ : ∃ V, (if K = 0 then movE c r else 0) = V := ⟨_, rfl⟩
  rw [hV]
  have HV : Hid ((if K = 0 then movE c r else 0) = V) := hV
  clear hV
  obtain ⟨b0, hb0⟩ : ∃ b0, b0 = w.heap.size := ⟨_, rfl⟩
  obtain ⟨b1, hb1⟩ : ∃ b1, b1 = b0 + 1 := ⟨_, rfl⟩
  obtain ⟨b2, hb2⟩ : ∃ b2, b2 = b1 + 1 := ⟨_, rfl⟩
  obtain ⟨W0, hW0⟩ : ∃ W0, W0 = ((w.alloc (.cells #[.int .i64 h.fl, .int .i64 h.gp, .int .i64 h.ln, .int .i64 h.rf, .int .i64 h.sp, .int .i64 h.pu, .int .i64 h.br, .int .i64 h.dr, .int .i64 h.lv, .int .i64 h.dO, .int .i64 h.ld, .int .i64 h.qu] 27)).alloc (.cells #[.int .i64 c.pos, .int .i64 c.vel, .int .i64 c.door] 34)).alloc (.cells #[.int .i64 0, .int .i64 0] 25) := ⟨_, rfl⟩
  have F0 : Hid (Blk W0 b0 [.int .i64 h.fl, .int .i64 h.gp, .int .i64 h.ln, .int .i64 h.rf, .int .i64 h.sp, .int .i64 h.pu, .int .i64 h.br, .int .i64 h.dr, .int .i64 h.lv, .int .i64 h.dO, .int .i64 h.ld, .int .i64 h.qu]) := by rw [hW0]; exact (((Blk.at_ _ #[.int .i64 h.fl, .int .i64 h.gp, .int .i64 h.ln, .int .i64 h.rf, .int .i64 h.sp, .int .i64 h.pu, .int .i64 h.br, .int .i64 h.dr, .int .i64 h.lv, .int .i64 h.dO, .int .i64 h.ld, .int .i64 h.qu] _ _ hb0).alloc _).alloc _)
  have F1 : Hid (Blk W0 b1 [.int .i64 c.pos, .int .i64 c.vel, .int .i64 c.door]) := by rw [hW0]; exact ((Blk.at_ _ #[.int .i64 c.pos, .int .i64 c.vel, .int .i64 c.door] _ _ (by simp; omega)).alloc _)
  have F2 : Hid (Blk W0 b2 [.int .i64 0, .int .i64 0]) := by rw [hW0]; exact (Blk.at_ _ #[.int .i64 0, .int .i64 0] _ _ (by simp; omega))
  have FB : Hid (Below w.heap.size w W0) := by rw [hW0]; exact ((((Below.refl _ _).alloc (Nat.le_refl _) _).alloc (by simp) _).alloc (by simp; omega) _)
  have leb0 : w.heap.size ≤ b0 := by omega
  have leb1 : w.heap.size ≤ b1 := by omega
  have leb2 : w.heap.size ≤ b2 := by omega
  have l01 : b0 < b1 := by omega
  have l12 : b1 < b2 := by omega
  go_enter Try.func14, Try.ntmps14
  go_upto_region 1 with fail
  rw [← hb0, ← hb1, ← hb2, ← hW0]
  clear hb0 hb1 hb2 hW0
  go_upto_region 2 with (first | (refine load_blk 27 _ Try.underlying27 (by kernel_rfl) F0.out rfl rfl rfl ?_) | (refine load_blk 34 _ Try.underlying34 (by kernel_rfl) F1.out rfl rfl rfl ?_) | (go_at_call 34; refine (CA _).mono ?_; rintro e w1 ⟨rfl, hb⟩; have F0 : Hid (Blk w1 b0 [.int .i64 h.fl, .int .i64 h.gp, .int .i64 h.ln, .int .i64 h.rf, .int .i64 h.sp, .int .i64 h.pu, .int .i64 h.br, .int .i64 h.dr, .int .i64 h.lv, .int .i64 h.dO, .int .i64 h.ld, .int .i64 h.qu]) := F0.out.below hb F0.out.lt; have F1 : Hid (Blk w1 b1 [.int .i64 c.pos, .int .i64 c.vel, .int .i64 c.door]) := F1.out.below hb F1.out.lt; have F2 : Hid (Blk w1 b2 [.int .i64 0, .int .i64 0]) := F2.out.below hb F2.out.lt; have FB : Hid (Below w.heap.size w w1) := FB.out.trans (hb.mono FB.out.size); clear hb))
  by_cases hz : K = 0
  case neg =>
    have hn : (K != 0) = true := by simpa using hz
    go_wp2_with (refine store_blk [.int .i64 K, .int .i64 0] 25 _ _ (by kernel_rfl) (by kernel_rfl) (by kernel_rfl) F2.out rfl rfl rfl rfl ?_)
    exact bodyPost_ret (v := .agg #[.int .i64 K, .int .i64 0]) ((F2.out.row [.int .i64 K, .int .i64 0]).res _ Try.results14 Try.underlying25 (by kernel_rfl) rfl) rfl ⟨ret_two rfl (by rw [← HV.out, if_neg hz]), below_row FB.out leb2 _⟩
  case pos =>
  subst hz
  obtain ⟨k, r1, r2⟩ := HA.out rfl
  have HO : Hid h.Ok := k.ok
  have HN : Hid (Nr h c) := nr_of k
  clear HA k CA
  go_wp2_with (first | (refine load_blk 27 _ Try.underlying27 (by kernel_rfl) F0.out rfl rfl rfl ?_) | (refine load_blk 34 _ Try.underlying34 (by kernel_rfl) F1.out rfl rfl rfl ?_) | (go_at_call 35; refine (l13Moving_any h c r HN.out r1 r2 _).mono ?_; rintro e w2 ⟨rfl, hb⟩; have F0 : Hid (Blk w2 b0 [.int .i64 h.fl, .int .i64 h.gp, .int .i64 h.ln, .int .i64 h.rf, .int .i64 h.sp, .int .i64 h.pu, .int .i64 h.br, .int .i64 h.dr, .int .i64 h.lv, .int .i64 h.dO, .int .i64 h.ld, .int .i64 h.qu]) := F0.out.below hb F0.out.lt; have F1 : Hid (Blk w2 b1 [.int .i64 c.pos, .int .i64 c.vel, .int .i64 c.door]) := F1.out.below hb F1.out.lt; have F2 : Hid (Blk w2 b2 [.int .i64 0, .int .i64 0]) := F2.out.below hb F2.out.lt; have FB : Hid (Below w.heap.size w w2) := FB.out.trans (hb.mono FB.out.size); clear hb) | (refine store_blk [.int .i64 0, .int .i64 (movE c r)] 25 _ _ (by kernel_rfl) (by kernel_rfl) (by kernel_rfl) F2.out rfl rfl rfl rfl ?_))
  exact bodyPost_ret (v := .agg #[.int .i64 0, .int .i64 (movE c r)]) ((F2.out.row [.int .i64 0, .int .i64 (movE c r)]).res _ Try.results14 Try.underlying25 (by kernel_rfl) rfl) rfl ⟨ret_two rfl (by rw [← HV.out]; simp), below_row FB.out leb2 _⟩
set_option maxRecDepth 20000 in
set_option maxHeartbeats 4000000 in
theorem specRaisedOf_any (h : Hs) (c : Cs) (r : Int) (w : World) :
    Calls Try.prog 17 #[.agg #[.int .i64 h.fl, .int .i64 h.gp, .int .i64 h.ln, .int .i64 h.rf, .int .i64 h.sp, .int .i64 h.pu, .int .i64 h.br, .int .i64 h.dr, .int .i64 h.lv, .int .i64 h.dO, .int .i64 h.ld, .int .i64 h.qu], .agg #[.int .i64 c.pos, .int .i64 c.vel, .int .i64 c.door], .int .i64 r] w (isAns w (Hs.askK h c r) (if Hs.askK h c r = 0 then raiE h c r else 0)) := by
  have CA : ∀ W, Calls Try.prog 34 #[.agg #[.int .i64 h.fl, .int .i64 h.gp, .int .i64 h.ln, .int .i64 h.rf, .int .i64 h.sp, .int .i64 h.pu, .int .i64 h.br, .int .i64 h.dr, .int .i64 h.lv, .int .i64 h.dO, .int .i64 h.ld, .int .i64 h.qu], .agg #[.int .i64 c.pos, .int .i64 c.vel, .int .i64 c.door], .int .i64 r] W fun e w' => e = .returned (.int .i64 (Hs.askK h c r)) ∧ Below W.heap.size W w' := fun W => l13Asked_any h c r W
  have HA : Hid (Hs.askK h c r = 0 → CarOk h c ∧ 0 ≤ r ∧ r ≤ 20) := fun z => by
    have a := Hs.ask_zero z
    have q := (Hs.car_zero a.1).ok.ld2
    exact ⟨Hs.car_zero a.1, a.2.1, by omega⟩
  obtain ⟨K, hK⟩ : ∃ K, Hs.askK h c r = K := ⟨_, rfl⟩
  rw [hK] at CA HA ⊢
  clear hK
  obtain ⟨V, hV⟩ : ∃ V, (if K = 0 then raiE h c r else 0) = V := ⟨_, rfl⟩
  rw [hV]
  have HV : Hid ((if K = 0 then raiE h c r else 0) = V) := hV
  clear hV
  obtain ⟨b0, hb0⟩ : ∃ b0, b0 = w.heap.size := ⟨_, rfl⟩
  obtain ⟨b1, hb1⟩ : ∃ b1, b1 = b0 + 1 := ⟨_, rfl⟩
  obtain ⟨b2, hb2⟩ : ∃ b2, b2 = b1 + 1 := ⟨_, rfl⟩
  obtain ⟨W0, hW0⟩ : ∃ W0, W0 = ((w.alloc (.cells #[.int .i64 h.fl, .int .i64 h.gp, .int .i64 h.ln, .int .i64 h.rf, .int .i64 h.sp, .int .i64 h.pu, .int .i64 h.br, .int .i64 h.dr, .int .i64 h.lv, .int .i64 h.dO, .int .i64 h.ld, .int .i64 h.qu] 27)).alloc (.cells #[.int .i64 c.pos, .int .i64 c.vel, .int .i64 c.door] 34)).alloc (.cells #[.int .i64 0, .int .i64 0] 25) := ⟨_, rfl⟩
  have F0 : Hid (Blk W0 b0 [.int .i64 h.fl, .int .i64 h.gp, .int .i64 h.ln, .int .i64 h.rf, .int .i64 h.sp, .int .i64 h.pu, .int .i64 h.br, .int .i64 h.dr, .int .i64 h.lv, .int .i64 h.dO, .int .i64 h.ld, .int .i64 h.qu]) := by rw [hW0]; exact (((Blk.at_ _ #[.int .i64 h.fl, .int .i64 h.gp, .int .i64 h.ln, .int .i64 h.rf, .int .i64 h.sp, .int .i64 h.pu, .int .i64 h.br, .int .i64 h.dr, .int .i64 h.lv, .int .i64 h.dO, .int .i64 h.ld, .int .i64 h.qu] _ _ hb0).alloc _).alloc _)
  have F1 : Hid (Blk W0 b1 [.int .i64 c.pos, .int .i64 c.vel, .int .i64 c.door]) := by rw [hW0]; exact ((Blk.at_ _ #[.int .i64 c.pos, .int .i64 c.vel, .int .i64 c.door] _ _ (by simp; omega)).alloc _)
  have F2 : Hid (Blk W0 b2 [.int .i64 0, .int .i64 0]) := by rw [hW0]; exact (Blk.at_ _ #[.int .i64 0, .int .i64 0] _ _ (by simp; omega))
  have FB : Hid (Below w.heap.size w W0) := by rw [hW0]; exact ((((Below.refl _ _).alloc (Nat.le_refl _) _).alloc (by simp) _).alloc (by simp; omega) _)
  have leb0 : w.heap.size ≤ b0 := by omega
  have leb1 : w.heap.size ≤ b1 := by omega
  have leb2 : w.heap.size ≤ b2 := by omega
  have l01 : b0 < b1 := by omega
  have l12 : b1 < b2 := by omega
  go_enter Try.func17, Try.ntmps17
  go_upto_region 1 with fail
  rw [← hb0, ← hb1, ← hb2, ← hW0]
  clear hb0 hb1 hb2 hW0
  go_upto_region 2 with (first | (refine load_blk 27 _ Try.underlying27 (by kernel_rfl) F0.out rfl rfl rfl ?_) | (refine load_blk 34 _ Try.underlying34 (by kernel_rfl) F1.out rfl rfl rfl ?_) | (go_at_call 34; refine (CA _).mono ?_; rintro e w1 ⟨rfl, hb⟩; have F0 : Hid (Blk w1 b0 [.int .i64 h.fl, .int .i64 h.gp, .int .i64 h.ln, .int .i64 h.rf, .int .i64 h.sp, .int .i64 h.pu, .int .i64 h.br, .int .i64 h.dr, .int .i64 h.lv, .int .i64 h.dO, .int .i64 h.ld, .int .i64 h.qu]) := F0.out.below hb F0.out.lt; have F1 : Hid (Blk w1 b1 [.int .i64 c.pos, .int .i64 c.vel, .int .i64 c.door]) := F1.out.below hb F1.out.lt; have F2 : Hid (Blk w1 b2 [.int .i64 0, .int .i64 0]) := F2.out.below hb F2.out.lt; have FB : Hid (Below w.heap.size w w1) := FB.out.trans (hb.mono FB.out.size); clear hb))
  by_cases hz : K = 0
  case neg =>
    have hn : (K != 0) = true := by simpa using hz
    go_wp2_with (refine store_blk [.int .i64 K, .int .i64 0] 25 _ _ (by kernel_rfl) (by kernel_rfl) (by kernel_rfl) F2.out rfl rfl rfl rfl ?_)
    exact bodyPost_ret (v := .agg #[.int .i64 K, .int .i64 0]) ((F2.out.row [.int .i64 K, .int .i64 0]).res _ Try.results17 Try.underlying25 (by kernel_rfl) rfl) rfl ⟨ret_two rfl (by rw [← HV.out, if_neg hz]), below_row FB.out leb2 _⟩
  case pos =>
  subst hz
  obtain ⟨k, r1, r2⟩ := HA.out rfl
  have HO : Hid h.Ok := k.ok
  have HN : Hid (Nr h c) := nr_of k
  clear HA k CA
  go_wp2_with (first | (refine load_blk 27 _ Try.underlying27 (by kernel_rfl) F0.out rfl rfl rfl ?_) | (refine load_blk 34 _ Try.underlying34 (by kernel_rfl) F1.out rfl rfl rfl ?_) | (go_at_call 38; refine (l13Raised_any h HO.out c r HN.out r1 r2 _).mono ?_; rintro e w2 ⟨rfl, hb⟩; have F0 : Hid (Blk w2 b0 [.int .i64 h.fl, .int .i64 h.gp, .int .i64 h.ln, .int .i64 h.rf, .int .i64 h.sp, .int .i64 h.pu, .int .i64 h.br, .int .i64 h.dr, .int .i64 h.lv, .int .i64 h.dO, .int .i64 h.ld, .int .i64 h.qu]) := F0.out.below hb F0.out.lt; have F1 : Hid (Blk w2 b1 [.int .i64 c.pos, .int .i64 c.vel, .int .i64 c.door]) := F1.out.below hb F1.out.lt; have F2 : Hid (Blk w2 b2 [.int .i64 0, .int .i64 0]) := F2.out.below hb F2.out.lt; have FB : Hid (Below w.heap.size w w2) := FB.out.trans (hb.mono FB.out.size); clear hb) | (refine store_blk [.int .i64 0, .int .i64 (raiE h c r)] 25 _ _ (by kernel_rfl) (by kernel_rfl) (by kernel_rfl) F2.out rfl rfl rfl rfl ?_))
  exact bodyPost_ret (v := .agg #[.int .i64 0, .int .i64 (raiE h c r)]) ((F2.out.row [.int .i64 0, .int .i64 (raiE h c r)]).res _ Try.results17 Try.underlying25 (by kernel_rfl) rfl) rfl ⟨ret_two rfl (by rw [← HV.out]; simp), below_row FB.out leb2 _⟩
set_option maxRecDepth 20000 in
set_option maxHeartbeats 4000000 in
theorem specEnergyOf_any (h : Hs) (c : Cs) (r : Int) (w : World) :
    Calls Try.prog 19 #[.agg #[.int .i64 h.fl, .int .i64 h.gp, .int .i64 h.ln, .int .i64 h.rf, .int .i64 h.sp, .int .i64 h.pu, .int .i64 h.br, .int .i64 h.dr, .int .i64 h.lv, .int .i64 h.dO, .int .i64 h.ld, .int .i64 h.qu], .agg #[.int .i64 c.pos, .int .i64 c.vel, .int .i64 c.door], .int .i64 r] w (isAns w (Hs.askK h c r) (if Hs.askK h c r = 0 then enE h c r else 0)) := by
  have CA : ∀ W, Calls Try.prog 34 #[.agg #[.int .i64 h.fl, .int .i64 h.gp, .int .i64 h.ln, .int .i64 h.rf, .int .i64 h.sp, .int .i64 h.pu, .int .i64 h.br, .int .i64 h.dr, .int .i64 h.lv, .int .i64 h.dO, .int .i64 h.ld, .int .i64 h.qu], .agg #[.int .i64 c.pos, .int .i64 c.vel, .int .i64 c.door], .int .i64 r] W fun e w' => e = .returned (.int .i64 (Hs.askK h c r)) ∧ Below W.heap.size W w' := fun W => l13Asked_any h c r W
  have HA : Hid (Hs.askK h c r = 0 → CarOk h c ∧ 0 ≤ r ∧ r ≤ 20) := fun z => by
    have a := Hs.ask_zero z
    have q := (Hs.car_zero a.1).ok.ld2
    exact ⟨Hs.car_zero a.1, a.2.1, by omega⟩
  obtain ⟨K, hK⟩ : ∃ K, Hs.askK h c r = K := ⟨_, rfl⟩
  rw [hK] at CA HA ⊢
  clear hK
  obtain ⟨V, hV⟩ : ∃ V, (if K = 0 then enE h c r else 0) = V := ⟨_, rfl⟩
  rw [hV]
  have HV : Hid ((if K = 0 then enE h c r else 0) = V) := hV
  clear hV
  obtain ⟨b0, hb0⟩ : ∃ b0, b0 = w.heap.size := ⟨_, rfl⟩
  obtain ⟨b1, hb1⟩ : ∃ b1, b1 = b0 + 1 := ⟨_, rfl⟩
  obtain ⟨b2, hb2⟩ : ∃ b2, b2 = b1 + 1 := ⟨_, rfl⟩
  obtain ⟨W0, hW0⟩ : ∃ W0, W0 = ((w.alloc (.cells #[.int .i64 h.fl, .int .i64 h.gp, .int .i64 h.ln, .int .i64 h.rf, .int .i64 h.sp, .int .i64 h.pu, .int .i64 h.br, .int .i64 h.dr, .int .i64 h.lv, .int .i64 h.dO, .int .i64 h.ld, .int .i64 h.qu] 27)).alloc (.cells #[.int .i64 c.pos, .int .i64 c.vel, .int .i64 c.door] 34)).alloc (.cells #[.int .i64 0, .int .i64 0] 25) := ⟨_, rfl⟩
  have F0 : Hid (Blk W0 b0 [.int .i64 h.fl, .int .i64 h.gp, .int .i64 h.ln, .int .i64 h.rf, .int .i64 h.sp, .int .i64 h.pu, .int .i64 h.br, .int .i64 h.dr, .int .i64 h.lv, .int .i64 h.dO, .int .i64 h.ld, .int .i64 h.qu]) := by rw [hW0]; exact (((Blk.at_ _ #[.int .i64 h.fl, .int .i64 h.gp, .int .i64 h.ln, .int .i64 h.rf, .int .i64 h.sp, .int .i64 h.pu, .int .i64 h.br, .int .i64 h.dr, .int .i64 h.lv, .int .i64 h.dO, .int .i64 h.ld, .int .i64 h.qu] _ _ hb0).alloc _).alloc _)
  have F1 : Hid (Blk W0 b1 [.int .i64 c.pos, .int .i64 c.vel, .int .i64 c.door]) := by rw [hW0]; exact ((Blk.at_ _ #[.int .i64 c.pos, .int .i64 c.vel, .int .i64 c.door] _ _ (by simp; omega)).alloc _)
  have F2 : Hid (Blk W0 b2 [.int .i64 0, .int .i64 0]) := by rw [hW0]; exact (Blk.at_ _ #[.int .i64 0, .int .i64 0] _ _ (by simp; omega))
  have FB : Hid (Below w.heap.size w W0) := by rw [hW0]; exact ((((Below.refl _ _).alloc (Nat.le_refl _) _).alloc (by simp) _).alloc (by simp; omega) _)
  have leb0 : w.heap.size ≤ b0 := by omega
  have leb1 : w.heap.size ≤ b1 := by omega
  have leb2 : w.heap.size ≤ b2 := by omega
  have l01 : b0 < b1 := by omega
  have l12 : b1 < b2 := by omega
  go_enter Try.func19, Try.ntmps19
  go_upto_region 1 with fail
  rw [← hb0, ← hb1, ← hb2, ← hW0]
  clear hb0 hb1 hb2 hW0
  go_upto_region 2 with (first | (refine load_blk 27 _ Try.underlying27 (by kernel_rfl) F0.out rfl rfl rfl ?_) | (refine load_blk 34 _ Try.underlying34 (by kernel_rfl) F1.out rfl rfl rfl ?_) | (go_at_call 34; refine (CA _).mono ?_; rintro e w1 ⟨rfl, hb⟩; have F0 : Hid (Blk w1 b0 [.int .i64 h.fl, .int .i64 h.gp, .int .i64 h.ln, .int .i64 h.rf, .int .i64 h.sp, .int .i64 h.pu, .int .i64 h.br, .int .i64 h.dr, .int .i64 h.lv, .int .i64 h.dO, .int .i64 h.ld, .int .i64 h.qu]) := F0.out.below hb F0.out.lt; have F1 : Hid (Blk w1 b1 [.int .i64 c.pos, .int .i64 c.vel, .int .i64 c.door]) := F1.out.below hb F1.out.lt; have F2 : Hid (Blk w1 b2 [.int .i64 0, .int .i64 0]) := F2.out.below hb F2.out.lt; have FB : Hid (Below w.heap.size w w1) := FB.out.trans (hb.mono FB.out.size); clear hb))
  by_cases hz : K = 0
  case neg =>
    have hn : (K != 0) = true := by simpa using hz
    go_wp2_with (refine store_blk [.int .i64 K, .int .i64 0] 25 _ _ (by kernel_rfl) (by kernel_rfl) (by kernel_rfl) F2.out rfl rfl rfl rfl ?_)
    exact bodyPost_ret (v := .agg #[.int .i64 K, .int .i64 0]) ((F2.out.row [.int .i64 K, .int .i64 0]).res _ Try.results19 Try.underlying25 (by kernel_rfl) rfl) rfl ⟨ret_two rfl (by rw [← HV.out, if_neg hz]), below_row FB.out leb2 _⟩
  case pos =>
  subst hz
  obtain ⟨k, r1, r2⟩ := HA.out rfl
  have HO : Hid h.Ok := k.ok
  have HN : Hid (Nr h c) := nr_of k
  clear HA k CA
  go_wp2_with (first | (refine load_blk 27 _ Try.underlying27 (by kernel_rfl) F0.out rfl rfl rfl ?_) | (refine load_blk 34 _ Try.underlying34 (by kernel_rfl) F1.out rfl rfl rfl ?_) | (go_at_call 40; refine (l13Energy_any h HO.out c r HN.out r1 r2 _).mono ?_; rintro e w2 ⟨rfl, hb⟩; have F0 : Hid (Blk w2 b0 [.int .i64 h.fl, .int .i64 h.gp, .int .i64 h.ln, .int .i64 h.rf, .int .i64 h.sp, .int .i64 h.pu, .int .i64 h.br, .int .i64 h.dr, .int .i64 h.lv, .int .i64 h.dO, .int .i64 h.ld, .int .i64 h.qu]) := F0.out.below hb F0.out.lt; have F1 : Hid (Blk w2 b1 [.int .i64 c.pos, .int .i64 c.vel, .int .i64 c.door]) := F1.out.below hb F1.out.lt; have F2 : Hid (Blk w2 b2 [.int .i64 0, .int .i64 0]) := F2.out.below hb F2.out.lt; have FB : Hid (Below w.heap.size w w2) := FB.out.trans (hb.mono FB.out.size); clear hb) | (refine store_blk [.int .i64 0, .int .i64 (enE h c r)] 25 _ _ (by kernel_rfl) (by kernel_rfl) (by kernel_rfl) F2.out rfl rfl rfl rfl ?_))
  exact bodyPost_ret (v := .agg #[.int .i64 0, .int .i64 (enE h c r)]) ((F2.out.row [.int .i64 0, .int .i64 (enE h c r)]).res _ Try.results19 Try.underlying25 (by kernel_rfl) rfl) rfl ⟨ret_two rfl (by rw [← HV.out]; simp), below_row FB.out leb2 _⟩
set_option maxRecDepth 20000 in
set_option maxHeartbeats 4000000 in
theorem specMassOf_any (h : Hs) (r : Int) (w : World) :
    Calls Try.prog 10 #[.agg #[.int .i64 h.fl, .int .i64 h.gp, .int .i64 h.ln, .int .i64 h.rf, .int .i64 h.sp, .int .i64 h.pu, .int .i64 h.br, .int .i64 h.dr, .int .i64 h.lv, .int .i64 h.dO, .int .i64 h.ld, .int .i64 h.qu], .int .i64 r] w (isAns w (Hs.massK h r) (Hs.massV h r)) := by
  unfold Hs.massV
  have HA : Hid (Hs.massK h r = 0 → 0 ≤ r ∧ r ≤ 20) := fun z => by
    unfold Hs.massK at z
    by_cases hf : h.fault = 0
    · rw [if_pos hf] at z
      have q := (Hs.ok_of (Hs.fault_zero hf).1).ld2
      by_cases hi : inB r 0 h.ld = true
      · have := inB_iff.1 hi; exact ⟨by omega, by omega⟩
      · rw [if_neg hi] at z; omega
    · rw [if_neg hf] at z; exact absurd z hf
  obtain ⟨K, hK⟩ : ∃ K, Hs.massK h r = K := ⟨_, rfl⟩
  have HK0 : Hid (Hs.massK h r = K) := hK
  rw [hK] at HA ⊢
  clear hK
  obtain ⟨V, hV⟩ : ∃ V, (if K = 0 then massN r else 0) = V := ⟨_, rfl⟩
  rw [hV]
  have HV : Hid ((if K = 0 then massN r else 0) = V) := hV
  clear hV
  obtain ⟨kf, hkf⟩ : ∃ kf, h.fault = kf := ⟨_, rfl⟩
  have HF : Hid (h.fault = kf) := hkf
  clear hkf
  obtain ⟨b0, hb0⟩ : ∃ b0, b0 = w.heap.size := ⟨_, rfl⟩
  obtain ⟨b2, hb2⟩ : ∃ b2, b2 = b0 + 1 := ⟨_, rfl⟩
  obtain ⟨W0, hW0⟩ : ∃ W0, W0 = (w.alloc (.cells #[.int .i64 h.fl, .int .i64 h.gp, .int .i64 h.ln, .int .i64 h.rf, .int .i64 h.sp, .int .i64 h.pu, .int .i64 h.br, .int .i64 h.dr, .int .i64 h.lv, .int .i64 h.dO, .int .i64 h.ld, .int .i64 h.qu] 27)).alloc (.cells #[.int .i64 0, .int .i64 0] 25) := ⟨_, rfl⟩
  have F0 : Hid (Blk W0 b0 [.int .i64 h.fl, .int .i64 h.gp, .int .i64 h.ln, .int .i64 h.rf, .int .i64 h.sp, .int .i64 h.pu, .int .i64 h.br, .int .i64 h.dr, .int .i64 h.lv, .int .i64 h.dO, .int .i64 h.ld, .int .i64 h.qu]) := by rw [hW0]; exact ((Blk.at_ _ #[.int .i64 h.fl, .int .i64 h.gp, .int .i64 h.ln, .int .i64 h.rf, .int .i64 h.sp, .int .i64 h.pu, .int .i64 h.br, .int .i64 h.dr, .int .i64 h.lv, .int .i64 h.dO, .int .i64 h.ld, .int .i64 h.qu] _ _ hb0).alloc _)
  have F2 : Hid (Blk W0 b2 [.int .i64 0, .int .i64 0]) := by rw [hW0]; exact (Blk.at_ _ #[.int .i64 0, .int .i64 0] _ _ (by simp; omega))
  have FB : Hid (Below w.heap.size w W0) := by rw [hW0]; exact (((Below.refl _ _).alloc (Nat.le_refl _) _).alloc (by simp) _)
  have leb0 : w.heap.size ≤ b0 := by omega
  have leb2 : w.heap.size ≤ b2 := by omega
  have l01 : b0 < b2 := by omega
  go_enter Try.func10, Try.ntmps10
  go_upto_region 1 with fail
  rw [← hb0, ← hb2, ← hW0]
  clear hb0 hb2 hW0
  go_upto_region 2 with (first | (refine load_blk 27 _ Try.underlying27 (by kernel_rfl) F0.out rfl rfl rfl ?_) | (go_at_call 29; refine (specFault_any h _).mono ?_; rw [HF.out]; rintro e w1 ⟨rfl, hb⟩; have F0 : Hid (Blk w1 b0 [.int .i64 h.fl, .int .i64 h.gp, .int .i64 h.ln, .int .i64 h.rf, .int .i64 h.sp, .int .i64 h.pu, .int .i64 h.br, .int .i64 h.dr, .int .i64 h.lv, .int .i64 h.dO, .int .i64 h.ld, .int .i64 h.qu]) := F0.out.below hb F0.out.lt; have F2 : Hid (Blk w1 b2 [.int .i64 0, .int .i64 0]) := F2.out.below hb F2.out.lt; have FB : Hid (Below w.heap.size w w1) := FB.out.trans (hb.mono FB.out.size); clear hb))
  by_cases hz : kf = 0
  case neg =>
    have hn : (kf != 0) = true := by simpa using hz
    have EK : Hid (kf = K) := by show kf = K; rw [← HK0.out]; unfold Hs.massK; rw [HF.out, if_neg hz]
    go_wp2_with (refine store_blk [.int .i64 kf, .int .i64 0] 25 _ _ (by kernel_rfl) (by kernel_rfl) (by kernel_rfl) F2.out rfl rfl rfl rfl ?_)
    exact bodyPost_ret (v := .agg #[.int .i64 kf, .int .i64 0]) ((F2.out.row [.int .i64 kf, .int .i64 0]).res _ Try.results10 Try.underlying25 (by kernel_rfl) rfl) rfl ⟨ret_two EK.out (by rw [← HV.out, ← EK.out, if_neg hz]), below_row FB.out leb2 _⟩
  case pos =>
  subst hz
  have c10 := F0.out.c 10 _ rfl
  cases hi : inB r 0 h.ld with
  | false =>
    have EK : Hid ((3 : Int) = K) := by show (3 : Int) = K; rw [← HK0.out]; unfold Hs.massK; rw [HF.out, if_pos rfl, hi]; rfl
    go_wp2_with (first | (go_at_call 30; refine (l1In_any _ _ _ _).mono ?_; rw [hi]; rintro e w' ⟨rfl, hw⟩; obtain rfl := hw.symm; clear hw) | (refine store_blk [.int .i64 3, .int .i64 0] 25 _ _ (by kernel_rfl) (by kernel_rfl) (by kernel_rfl) F2.out rfl rfl rfl rfl ?_))
    exact bodyPost_ret (v := .agg #[.int .i64 3, .int .i64 0]) ((F2.out.row [.int .i64 3, .int .i64 0]).res _ Try.results10 Try.underlying25 (by kernel_rfl) rfl) rfl ⟨ret_two EK.out (by rw [← HV.out, ← EK.out]; rfl), below_row FB.out leb2 _⟩
  | true =>
    have EK : Hid ((0 : Int) = K) := by show (0 : Int) = K; rw [← HK0.out]; unfold Hs.massK; rw [HF.out, if_pos rfl, hi]; rfl
    obtain ⟨r1, r2⟩ := HA.out EK.out.symm
    go_wp2_with (first | (go_at_call 30; refine (l1In_any _ _ _ _).mono ?_; rw [hi]; rintro e w' ⟨rfl, hw⟩; obtain rfl := hw.symm; clear hw) | (go_at_call 31; refine (l13Mass_any r r1 r2 _).mono ?_; rintro e w' ⟨rfl, hw⟩; obtain rfl := hw.symm; clear hw) | (refine store_blk [.int .i64 0, .int .i64 (massN r)] 25 _ _ (by kernel_rfl) (by kernel_rfl) (by kernel_rfl) F2.out rfl rfl rfl rfl ?_))
    exact bodyPost_ret (v := .agg #[.int .i64 0, .int .i64 (massN r)]) ((F2.out.row [.int .i64 0, .int .i64 (massN r)]).res _ Try.results10 Try.underlying25 (by kernel_rfl) rfl) rfl ⟨ret_two EK.out (by rw [← HV.out, ← EK.out]; rfl), below_row FB.out leb2 _⟩
end Go.Proofs.Ytngdfckknkgdgaa
