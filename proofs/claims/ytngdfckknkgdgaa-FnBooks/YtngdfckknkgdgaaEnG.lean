/-
  Books: a new one, what it tells.
-/
import Derived.Test.YtngdfckknkgdgaaEnE
import Derived.Test.YtngdfckknkgdgaaCarI
namespace Go.Proofs.Ytngdfckknkgdgaa
open Go.RowKit Pl
set_option linter.unusedSimpArgs false
set_option linter.unusedVariables false

theorem setCells_putB (b : Nat) : ∀ (vs : List Value) (k : Nat) (W : World), W.setCells b k vs = putB W b k vs
  | [], _, _ => rfl
  | v :: vs, k, W => by
    rw [World.setCells]
    exact setCells_putB b vs (k + 1) _
theorem wp_store_whole {op : Oper} {a : Act} {w : World} {K : Act → World → Prop} {Q : Exit → Act → World → Prop} {b : Nat} {us : List Value} (vs : List Value) (T : TypeId) (x y : Operand) (hi : (Try.prog.info? T).map (·.size) = some vs.toArray.size) (h1 : vs.toArray.all (·.oneCell') = true) (hB : Blk w b us) (hl : vs.length = us.length)
    (ho : op.op = .store T x y) (hx : a.eval x = .pointer (some ⟨b, 0, none⟩)) (hy : a.eval y = .agg vs.toArray) (h : K (a.put op.dst undef) (putB w b 0 vs)) : op.wp Try.prog a w K Q := by
  refine wp_store_mid T x y ho b 0 vs.toArray hx hy (fun j hj => ?_) hi h1 ?_
  · have hj' : j < us.length := by simpa [hl] using hj
    rw [Nat.zero_add]
    exact ⟨by rw [hB.c j us[j] (List.getElem?_eq_getElem hj')]; rfl, hB.f j hj'⟩
  · rw [List.toList_toArray, setCells_putB]; exact h
theorem step_ofE {P : Program} {ops : Array Oper} {o : Oper} {a : Act} {w : World} {K : Act → World → Prop} {Q : Exit → Act → World → Prop} {E : Prop} (hg : o.guard = none) (h : Oper.wp P o a w K Q) : if Region.wanted o (yielded ops a.tmps) = true then Oper.wp P o a w K Q else E := by
  rw [if_pos (by simp [Region.wanted, hg])]
  exact h
set_option maxRecDepth 20000 in
set_option maxHeartbeats 16000000 in
theorem newBook_any (h : Hs) (c : Cs) (r : Int) (r1 : 0 ≤ r) (r2 : r ≤ 20) (w : World) :
    Calls Try.prog 48 #[.agg #[.int .i64 h.fl, .int .i64 h.gp, .int .i64 h.ln, .int .i64 h.rf, .int .i64 h.sp, .int .i64 h.pu, .int .i64 h.br, .int .i64 h.dr, .int .i64 h.lv, .int .i64 h.dO, .int .i64 h.ld, .int .i64 h.qu], .agg #[.int .i64 c.pos, .int .i64 c.vel, .int .i64 c.door], .int .i64 r] w fun e w' => e = .returned (.agg #[.int .i64 h.fl, .int .i64 h.gp, .int .i64 h.ln, .int .i64 h.rf, .int .i64 h.sp, .int .i64 h.pu, .int .i64 h.br, .int .i64 h.dr, .int .i64 h.lv, .int .i64 h.dO, .int .i64 h.ld, .int .i64 h.qu, .int .i64 (massN r), .int .i64 0, .int .i64 0, .int .i64 0, .int .i64 0, .int .i64 c.pos, .int .i64 c.vel, .int .i64 c.door]) ∧ Below w.heap.size w w' := by
  obtain ⟨b0, hb0⟩ : ∃ b0, b0 = w.heap.size := ⟨_, rfl⟩
  obtain ⟨b1, hb1⟩ : ∃ b1, b1 = b0 + 1 := ⟨_, rfl⟩
  obtain ⟨b2, hb2⟩ : ∃ b2, b2 = b1 + 1 := ⟨_, rfl⟩
  obtain ⟨W0, hW0⟩ : ∃ W0, W0 = ((w.alloc (.cells #[.int .i64 h.fl, .int .i64 h.gp, .int .i64 h.ln, .int .i64 h.rf, .int .i64 h.sp, .int .i64 h.pu, .int .i64 h.br, .int .i64 h.dr, .int .i64 h.lv, .int .i64 h.dO, .int .i64 h.ld, .int .i64 h.qu] 27)).alloc (.cells #[.int .i64 c.pos, .int .i64 c.vel, .int .i64 c.door] 34)).alloc (.cells #[.int .i64 0, .int .i64 0, .int .i64 0, .int .i64 0, .int .i64 0, .int .i64 0, .int .i64 0, .int .i64 0, .int .i64 0, .int .i64 0, .int .i64 0, .int .i64 0, .int .i64 0, .int .i64 0, .int .i64 0, .int .i64 0, .int .i64 0, .int .i64 0, .int .i64 0, .int .i64 0] 62) := ⟨_, rfl⟩
  have F0 : Hid (Blk W0 b0 [.int .i64 h.fl, .int .i64 h.gp, .int .i64 h.ln, .int .i64 h.rf, .int .i64 h.sp, .int .i64 h.pu, .int .i64 h.br, .int .i64 h.dr, .int .i64 h.lv, .int .i64 h.dO, .int .i64 h.ld, .int .i64 h.qu]) := by rw [hW0]; exact (((Blk.at_ _ #[.int .i64 h.fl, .int .i64 h.gp, .int .i64 h.ln, .int .i64 h.rf, .int .i64 h.sp, .int .i64 h.pu, .int .i64 h.br, .int .i64 h.dr, .int .i64 h.lv, .int .i64 h.dO, .int .i64 h.ld, .int .i64 h.qu] _ _ hb0).alloc _).alloc _)
  have F1 : Hid (Blk W0 b1 [.int .i64 c.pos, .int .i64 c.vel, .int .i64 c.door]) := by rw [hW0]; exact ((Blk.at_ _ #[.int .i64 c.pos, .int .i64 c.vel, .int .i64 c.door] _ _ (by simp; omega)).alloc _)
  have F2 : Hid (Blk W0 b2 [.int .i64 0, .int .i64 0, .int .i64 0, .int .i64 0, .int .i64 0, .int .i64 0, .int .i64 0, .int .i64 0, .int .i64 0, .int .i64 0, .int .i64 0, .int .i64 0, .int .i64 0, .int .i64 0, .int .i64 0, .int .i64 0, .int .i64 0, .int .i64 0, .int .i64 0, .int .i64 0]) := by rw [hW0]; exact (Blk.at_ _ #[.int .i64 0, .int .i64 0, .int .i64 0, .int .i64 0, .int .i64 0, .int .i64 0, .int .i64 0, .int .i64 0, .int .i64 0, .int .i64 0, .int .i64 0, .int .i64 0, .int .i64 0, .int .i64 0, .int .i64 0, .int .i64 0, .int .i64 0, .int .i64 0, .int .i64 0, .int .i64 0] _ _ (by simp; omega))
  have FB : Hid (Below w.heap.size w W0) := by rw [hW0]; exact ((((Below.refl _ _).alloc (Nat.le_refl _) _).alloc (by simp) _).alloc (by simp; omega) _)
  have leb0 : w.heap.size ≤ b0 := by omega
  have leb1 : w.heap.size ≤ b1 := by omega
  have leb2 : w.heap.size ≤ b2 := by omega
  have l01 : b0 < b1 := by omega
  have l12 : b1 < b2 := by omega
  go_enter Try.func48, Try.ntmps48
  go_upto_region 1 with fail
  rw [← hb0, ← hb1, ← hb2, ← hW0]
  clear hb0 hb1 hb2 hW0
  have F0 : Hid (Blk W0.drew b0 [.int .i64 h.fl, .int .i64 h.gp, .int .i64 h.ln, .int .i64 h.rf, .int .i64 h.sp, .int .i64 h.pu, .int .i64 h.br, .int .i64 h.dr, .int .i64 h.lv, .int .i64 h.dO, .int .i64 h.ld, .int .i64 h.qu]) := F0.out.below (Below.refl _ _).drew F0.out.lt
  have F1 : Hid (Blk W0.drew b1 [.int .i64 c.pos, .int .i64 c.vel, .int .i64 c.door]) := F1.out.below (Below.refl _ _).drew F1.out.lt
  have F2 : Hid (Blk W0.drew b2 [.int .i64 0, .int .i64 0, .int .i64 0, .int .i64 0, .int .i64 0, .int .i64 0, .int .i64 0, .int .i64 0, .int .i64 0, .int .i64 0, .int .i64 0, .int .i64 0, .int .i64 0, .int .i64 0, .int .i64 0, .int .i64 0, .int .i64 0, .int .i64 0, .int .i64 0, .int .i64 0]) := F2.out.below (Below.refl _ _).drew F2.out.lt
  have FB : Hid (Below w.heap.size w W0.drew) := FB.out.drew
  refine wp_region_held_drew (S := (fun w'' => Blk w'' b0 ([.int .i64 h.fl, .int .i64 h.gp, .int .i64 h.ln, .int .i64 h.rf, .int .i64 h.sp, .int .i64 h.pu, .int .i64 h.br, .int .i64 h.dr, .int .i64 h.lv, .int .i64 h.dO, .int .i64 h.ld, .int .i64 h.qu]) ∧ Blk w'' b1 ([.int .i64 c.pos, .int .i64 c.vel, .int .i64 c.door]))) (by kernel_rfl) (by (try dsimp only); first | exact ⟨F0.out, F1.out⟩ | go_keep) (fun hHeld => ?_)
  obtain ⟨v_1, hw1⟩ : ∃ v_1, v_1 = W0.drew := ⟨_, rfl⟩
  have F0 : Hid (Blk v_1 b0 [.int .i64 h.fl, .int .i64 h.gp, .int .i64 h.ln, .int .i64 h.rf, .int .i64 h.sp, .int .i64 h.pu, .int .i64 h.br, .int .i64 h.dr, .int .i64 h.lv, .int .i64 h.dO, .int .i64 h.ld, .int .i64 h.qu]) := by rw [hw1]; exact F0.out
  have F1 : Hid (Blk v_1 b1 [.int .i64 c.pos, .int .i64 c.vel, .int .i64 c.door]) := by rw [hw1]; exact F1.out
  have F2 : Hid (Blk v_1 b2 [.int .i64 0, .int .i64 0, .int .i64 0, .int .i64 0, .int .i64 0, .int .i64 0, .int .i64 0, .int .i64 0, .int .i64 0, .int .i64 0, .int .i64 0, .int .i64 0, .int .i64 0, .int .i64 0, .int .i64 0, .int .i64 0, .int .i64 0, .int .i64 0, .int .i64 0, .int .i64 0]) := by rw [hw1]; exact F2.out
  have FB : Hid (Below w.heap.size w v_1) := by rw [hw1]; exact FB.out
  rw [← hw1] at hHeld ⊢
  clear hw1
  refine tkz 0 rfl ?_ (hy := Or.inl ⟨by kernel_rfl, fun wx hSw => exec_load_blk 27 _ Try.underlying27 (by kernel_rfl) rfl rfl hSw.1⟩)
  refine tkz 1 rfl ?_
  refine tkz 3 rfl ?_ (hy := Or.inl ⟨by kernel_rfl, fun wx hSw => exec_load_blk 34 _ Try.underlying34 (by kernel_rfl) rfl rfl hSw.2⟩)
  refine tkz 4 rfl ?_
  refine wpAnyH_ready (rs := [2]) (by kernel_rfl) (by simp) ?_
  refine (AllReadyH.cons rfl (fun K hK => ?_) AllReadyH.nil)
  go_simp
  refine (massWith_any r r1 r2 _).mono ?_
  rintro e w_ ⟨rfl, hw⟩
  obtain rfl := hw.symm
  clear hw
  try dsimp only
  refine hK.out _ _ (by (try dsimp only); first | exact ⟨F0.out, F1.out⟩ | go_keep) (fun hHeld => ?_)
  clear hK K
  try simp only [Act.put, List.getElem_toArray, List.getElem_cons_succ, List.getElem_cons_zero, List.setIfInBounds_toArray, List.set_cons_zero, List.set_cons_succ]
  refine tkz 5 rfl ?_
  refine wpAnyH_ready (rs := [6]) (by kernel_rfl) (by simp) ?_
  refine (AllReadyH.cons rfl (fun K hK => ?_) AllReadyH.nil)
  refine step_ofE rfl ?_
  refine wp_store_whole [.int .i64 h.fl, .int .i64 h.gp, .int .i64 h.ln, .int .i64 h.rf, .int .i64 h.sp, .int .i64 h.pu, .int .i64 h.br, .int .i64 h.dr, .int .i64 h.lv, .int .i64 h.dO, .int .i64 h.ld, .int .i64 h.qu, .int .i64 (massN r), .int .i64 0, .int .i64 0, .int .i64 0, .int .i64 0, .int .i64 c.pos, .int .i64 c.vel, .int .i64 c.door] 62 _ _ (by kernel_rfl) (by kernel_rfl) F2.out rfl rfl rfl rfl ?_
  obtain ⟨v_2, hw2⟩ : ∃ q, q = putB v_1 b2 0 [.int .i64 h.fl, .int .i64 h.gp, .int .i64 h.ln, .int .i64 h.rf, .int .i64 h.sp, .int .i64 h.pu, .int .i64 h.br, .int .i64 h.dr, .int .i64 h.lv, .int .i64 h.dO, .int .i64 h.ld, .int .i64 h.qu, .int .i64 (massN r), .int .i64 0, .int .i64 0, .int .i64 0, .int .i64 0, .int .i64 c.pos, .int .i64 c.vel, .int .i64 c.door] := ⟨_, rfl⟩
  rw [← hw2]
  have F0 : Hid (Blk v_2 b0 [.int .i64 h.fl, .int .i64 h.gp, .int .i64 h.ln, .int .i64 h.rf, .int .i64 h.sp, .int .i64 h.pu, .int .i64 h.br, .int .i64 h.dr, .int .i64 h.lv, .int .i64 h.dO, .int .i64 h.ld, .int .i64 h.qu]) := by rw [hw2]; exact Blk.putB_other (by omega) _ 0 F0.out
  have F1 : Hid (Blk v_2 b1 [.int .i64 c.pos, .int .i64 c.vel, .int .i64 c.door]) := by rw [hw2]; exact Blk.putB_other (by omega) _ 0 F1.out
  have F2 : Hid (Blk v_2 b2 [.int .i64 h.fl, .int .i64 h.gp, .int .i64 h.ln, .int .i64 h.rf, .int .i64 h.sp, .int .i64 h.pu, .int .i64 h.br, .int .i64 h.dr, .int .i64 h.lv, .int .i64 h.dO, .int .i64 h.ld, .int .i64 h.qu, .int .i64 (massN r), .int .i64 0, .int .i64 0, .int .i64 0, .int .i64 0, .int .i64 c.pos, .int .i64 c.vel, .int .i64 c.door]) := by rw [hw2]; exact F2.out.put [.int .i64 h.fl, .int .i64 h.gp, .int .i64 h.ln, .int .i64 h.rf, .int .i64 h.sp, .int .i64 h.pu, .int .i64 h.br, .int .i64 h.dr, .int .i64 h.lv, .int .i64 h.dO, .int .i64 h.ld, .int .i64 h.qu, .int .i64 (massN r), .int .i64 0, .int .i64 0, .int .i64 0, .int .i64 0, .int .i64 c.pos, .int .i64 c.vel, .int .i64 c.door] rfl
  have FB : Hid (Below w.heap.size w v_2) := by rw [hw2]; exact below_putB FB.out (by omega) _ 0
  clear hw2
  refine hK.out _ _ (by (try dsimp only); first | exact ⟨F0.out, F1.out⟩ | go_keep) (fun hHeld => ?_)
  clear hK K
  try simp only [Act.put, List.getElem_toArray, List.getElem_cons_succ, List.getElem_cons_zero, List.setIfInBounds_toArray, List.set_cons_zero, List.set_cons_succ]
  refine wpAnyH_done (by kernel_rfl) ?_ _
  go_wp2
  exact bodyPost_ret (v := .agg #[.int .i64 h.fl, .int .i64 h.gp, .int .i64 h.ln, .int .i64 h.rf, .int .i64 h.sp, .int .i64 h.pu, .int .i64 h.br, .int .i64 h.dr, .int .i64 h.lv, .int .i64 h.dO, .int .i64 h.ld, .int .i64 h.qu, .int .i64 (massN r), .int .i64 0, .int .i64 0, .int .i64 0, .int .i64 0, .int .i64 c.pos, .int .i64 c.vel, .int .i64 c.door]) (F2.out.res _ Try.results48 Try.underlying62 (by kernel_rfl) rfl) rfl ⟨rfl, FB.out⟩
set_option maxRecDepth 20000 in
set_option maxHeartbeats 16000000 in
theorem told_in (h : Hs) (o : h.Ok) (c : Cs) (r : Int) (s : Bk) (hi : inB c.pos h.low h.high = true) (pb : Nat) (w : World) (h_FP : Blk w pb [.int .i64 h.fl, .int .i64 h.gp, .int .i64 h.ln, .int .i64 h.rf, .int .i64 h.sp, .int .i64 h.pu, .int .i64 h.br, .int .i64 h.dr, .int .i64 h.lv, .int .i64 h.dO, .int .i64 h.ld, .int .i64 h.qu, .int .i64 (massN r), .int .i64 0, .int .i64 s.i, .int .i64 s.o, .int .i64 s.l, .int .i64 c.pos, .int .i64 c.vel, .int .i64 c.door]) :
    Calls Try.prog 50 #[.pointer (some ⟨pb, 0, none⟩)] w fun e w' => e = .returned (.agg #[.int .i64 0, .int .i64 s.i, .int .i64 s.o, .int .i64 s.l, .int .i64 c.pos, .int .i64 c.vel, .int .i64 c.door]) ∧ Below w.heap.size w w' := by
  have CS : ∀ W, Calls Try.prog 72 #[.agg #[.int .i64 h.fl, .int .i64 h.gp, .int .i64 h.ln, .int .i64 h.rf, .int .i64 h.sp, .int .i64 h.pu, .int .i64 h.br, .int .i64 h.dr, .int .i64 h.lv, .int .i64 h.dO, .int .i64 h.ld, .int .i64 h.qu], .agg #[.int .i64 c.pos, .int .i64 c.vel, .int .i64 c.door]] W fun e w' => e = .returned (.bool true) ∧ Below W.heap.size W w' := fun W => by have q := isInShaft_any h o c W; rw [hi] at q; exact q
  clear hi o
  have ltpb := h_FP.lt
  obtain ⟨b0, hb0⟩ : ∃ b0, b0 = w.heap.size := ⟨_, rfl⟩
  obtain ⟨W0, hW0⟩ : ∃ W0, W0 = w.alloc (.cells #[.int .i64 0, .int .i64 0, .int .i64 0, .int .i64 0, .int .i64 0, .int .i64 0, .int .i64 0] 40) := ⟨_, rfl⟩
  have F0 : Hid (Blk W0 b0 [.int .i64 0, .int .i64 0, .int .i64 0, .int .i64 0, .int .i64 0, .int .i64 0, .int .i64 0]) := by rw [hW0]; exact (Blk.at_ _ #[.int .i64 0, .int .i64 0, .int .i64 0, .int .i64 0, .int .i64 0, .int .i64 0, .int .i64 0] _ _ hb0)
  have FP : Hid (Blk W0 pb [.int .i64 h.fl, .int .i64 h.gp, .int .i64 h.ln, .int .i64 h.rf, .int .i64 h.sp, .int .i64 h.pu, .int .i64 h.br, .int .i64 h.dr, .int .i64 h.lv, .int .i64 h.dO, .int .i64 h.ld, .int .i64 h.qu, .int .i64 (massN r), .int .i64 0, .int .i64 s.i, .int .i64 s.o, .int .i64 s.l, .int .i64 c.pos, .int .i64 c.vel, .int .i64 c.door]) := by rw [hW0]; exact (h_FP.alloc _)
  clear h_FP
  have FB : Hid (Below w.heap.size w W0) := by rw [hW0]; exact ((Below.refl _ _).alloc (Nat.le_refl _) _)
  have leb0 : w.heap.size ≤ b0 := by omega
  go_enter Try.func50, Try.ntmps50
  go_upto_region 1 with fail
  rw [← hb0, ← hW0]
  clear hb0 hW0
  have FP : Hid (Blk W0.drew pb [.int .i64 h.fl, .int .i64 h.gp, .int .i64 h.ln, .int .i64 h.rf, .int .i64 h.sp, .int .i64 h.pu, .int .i64 h.br, .int .i64 h.dr, .int .i64 h.lv, .int .i64 h.dO, .int .i64 h.ld, .int .i64 h.qu, .int .i64 (massN r), .int .i64 0, .int .i64 s.i, .int .i64 s.o, .int .i64 s.l, .int .i64 c.pos, .int .i64 c.vel, .int .i64 c.door]) := FP.out.below (Below.refl _ _).drew FP.out.lt
  have F0 : Hid (Blk W0.drew b0 [.int .i64 0, .int .i64 0, .int .i64 0, .int .i64 0, .int .i64 0, .int .i64 0, .int .i64 0]) := F0.out.below (Below.refl _ _).drew F0.out.lt
  have FB : Hid (Below w.heap.size w W0.drew) := FB.out.drew
  refine wp_region_held_drew (S := (fun w'' => Blk w'' pb ([.int .i64 h.fl, .int .i64 h.gp, .int .i64 h.ln, .int .i64 h.rf, .int .i64 h.sp, .int .i64 h.pu, .int .i64 h.br, .int .i64 h.dr, .int .i64 h.lv, .int .i64 h.dO, .int .i64 h.ld, .int .i64 h.qu, .int .i64 (massN r), .int .i64 0, .int .i64 s.i, .int .i64 s.o, .int .i64 s.l, .int .i64 c.pos, .int .i64 c.vel, .int .i64 c.door]))) (by kernel_rfl) (by (try dsimp only); first | exact FP.out | go_keep) (fun hHeld => ?_)
  obtain ⟨v_3, hw1⟩ : ∃ v_3, v_3 = W0.drew := ⟨_, rfl⟩
  have FP : Hid (Blk v_3 pb [.int .i64 h.fl, .int .i64 h.gp, .int .i64 h.ln, .int .i64 h.rf, .int .i64 h.sp, .int .i64 h.pu, .int .i64 h.br, .int .i64 h.dr, .int .i64 h.lv, .int .i64 h.dO, .int .i64 h.ld, .int .i64 h.qu, .int .i64 (massN r), .int .i64 0, .int .i64 s.i, .int .i64 s.o, .int .i64 s.l, .int .i64 c.pos, .int .i64 c.vel, .int .i64 c.door]) := by rw [hw1]; exact FP.out
  have F0 : Hid (Blk v_3 b0 [.int .i64 0, .int .i64 0, .int .i64 0, .int .i64 0, .int .i64 0, .int .i64 0, .int .i64 0]) := by rw [hw1]; exact F0.out
  have FB : Hid (Below w.heap.size w v_3) := by rw [hw1]; exact FB.out
  rw [← hw1] at hHeld ⊢
  clear hw1
  refine tkz 0 rfl ?_
  refine tkz 1 rfl ?_
  refine tkz 2 rfl ?_
  refine tkz 3 rfl ?_ (hy := Or.inl ⟨by kernel_rfl, fun wx hSw => exec_load_mid 27 _ 0 [.int .i64 h.fl, .int .i64 h.gp, .int .i64 h.ln, .int .i64 h.rf, .int .i64 h.sp, .int .i64 h.pu, .int .i64 h.br, .int .i64 h.dr, .int .i64 h.lv, .int .i64 h.dO, .int .i64 h.ld, .int .i64 h.qu] Try.underlying27 (by kernel_rfl) rfl rfl rfl hSw⟩)
  refine tkz 4 rfl ?_
  refine tkz 5 rfl ?_
  refine tkz 6 rfl ?_
  refine tkz 7 rfl ?_
  refine tkz 8 rfl ?_ (hy := Or.inl ⟨by kernel_rfl, fun wx hSw => exec_load_mid 34 _ 17 [.int .i64 c.pos, .int .i64 c.vel, .int .i64 c.door] Try.underlying34 (by kernel_rfl) rfl rfl rfl hSw⟩)
  refine wpAnyH_ready (rs := [9]) (by kernel_rfl) (by simp) ?_
  refine (AllReadyH.cons rfl (fun K hK => ?_) AllReadyH.nil)
  go_simp
  refine (CS _).mono ?_
  rintro e v_4 ⟨rfl, hb⟩
  have FP : Hid (Blk v_4 pb [.int .i64 h.fl, .int .i64 h.gp, .int .i64 h.ln, .int .i64 h.rf, .int .i64 h.sp, .int .i64 h.pu, .int .i64 h.br, .int .i64 h.dr, .int .i64 h.lv, .int .i64 h.dO, .int .i64 h.ld, .int .i64 h.qu, .int .i64 (massN r), .int .i64 0, .int .i64 s.i, .int .i64 s.o, .int .i64 s.l, .int .i64 c.pos, .int .i64 c.vel, .int .i64 c.door]) := FP.out.below hb FP.out.lt
  have F0 : Hid (Blk v_4 b0 [.int .i64 0, .int .i64 0, .int .i64 0, .int .i64 0, .int .i64 0, .int .i64 0, .int .i64 0]) := F0.out.below hb F0.out.lt
  have FB : Hid (Below w.heap.size w v_4) := FB.out.trans (hb.mono FB.out.size)
  clear hb
  try dsimp only
  refine hK.out _ _ (by (try dsimp only); first | exact FP.out | go_keep) (fun hHeld => ?_)
  clear hK K
  try simp only [Act.put, List.getElem_toArray, List.getElem_cons_succ, List.getElem_cons_zero, List.setIfInBounds_toArray, List.set_cons_zero, List.set_cons_succ]
  refine tkz 10 rfl ?_
  refine wpAnyH_done (by kernel_rfl) ?_ _
  go_wp2_with (first | (refine load_mid 40 _ 13 [.int .i64 0, .int .i64 s.i, .int .i64 s.o, .int .i64 s.l, .int .i64 c.pos, .int .i64 c.vel, .int .i64 c.door] Try.underlying40 (by kernel_rfl) FP.out rfl rfl rfl rfl ?_) | (refine store_blk [.int .i64 0, .int .i64 s.i, .int .i64 s.o, .int .i64 s.l, .int .i64 c.pos, .int .i64 c.vel, .int .i64 c.door] 40 _ _ (by kernel_rfl) (by kernel_rfl) (by kernel_rfl) F0.out rfl rfl rfl rfl ?_))
  exact bodyPost_ret (v := .agg #[.int .i64 0, .int .i64 s.i, .int .i64 s.o, .int .i64 s.l, .int .i64 c.pos, .int .i64 c.vel, .int .i64 c.door]) ((F0.out.row [.int .i64 0, .int .i64 s.i, .int .i64 s.o, .int .i64 s.l, .int .i64 c.pos, .int .i64 c.vel, .int .i64 c.door]).res _ Try.results50 Try.underlying40 (by kernel_rfl) rfl) rfl ⟨rfl, below_row FB.out leb0 _⟩
set_option maxRecDepth 20000 in
set_option maxHeartbeats 16000000 in
theorem told_out (h : Hs) (o : h.Ok) (c : Cs) (r : Int) (s : Bk) (hi : inB c.pos h.low h.high = false) (pb : Nat) (w : World) (h_FP : Blk w pb [.int .i64 h.fl, .int .i64 h.gp, .int .i64 h.ln, .int .i64 h.rf, .int .i64 h.sp, .int .i64 h.pu, .int .i64 h.br, .int .i64 h.dr, .int .i64 h.lv, .int .i64 h.dO, .int .i64 h.ld, .int .i64 h.qu, .int .i64 (massN r), .int .i64 0, .int .i64 s.i, .int .i64 s.o, .int .i64 s.l, .int .i64 c.pos, .int .i64 c.vel, .int .i64 c.door]) :
    Calls Try.prog 50 #[.pointer (some ⟨pb, 0, none⟩)] w fun e w' => e = .returned (.agg #[.int .i64 3, .int .i64 0, .int .i64 0, .int .i64 0, .int .i64 0, .int .i64 0, .int .i64 0]) ∧ Below w.heap.size w w' := by
  have CS : ∀ W, Calls Try.prog 72 #[.agg #[.int .i64 h.fl, .int .i64 h.gp, .int .i64 h.ln, .int .i64 h.rf, .int .i64 h.sp, .int .i64 h.pu, .int .i64 h.br, .int .i64 h.dr, .int .i64 h.lv, .int .i64 h.dO, .int .i64 h.ld, .int .i64 h.qu], .agg #[.int .i64 c.pos, .int .i64 c.vel, .int .i64 c.door]] W fun e w' => e = .returned (.bool false) ∧ Below W.heap.size W w' := fun W => by have q := isInShaft_any h o c W; rw [hi] at q; exact q
  clear hi o
  have ltpb := h_FP.lt
  obtain ⟨b0, hb0⟩ : ∃ b0, b0 = w.heap.size := ⟨_, rfl⟩
  obtain ⟨W0, hW0⟩ : ∃ W0, W0 = w.alloc (.cells #[.int .i64 0, .int .i64 0, .int .i64 0, .int .i64 0, .int .i64 0, .int .i64 0, .int .i64 0] 40) := ⟨_, rfl⟩
  have F0 : Hid (Blk W0 b0 [.int .i64 0, .int .i64 0, .int .i64 0, .int .i64 0, .int .i64 0, .int .i64 0, .int .i64 0]) := by rw [hW0]; exact (Blk.at_ _ #[.int .i64 0, .int .i64 0, .int .i64 0, .int .i64 0, .int .i64 0, .int .i64 0, .int .i64 0] _ _ hb0)
  have FP : Hid (Blk W0 pb [.int .i64 h.fl, .int .i64 h.gp, .int .i64 h.ln, .int .i64 h.rf, .int .i64 h.sp, .int .i64 h.pu, .int .i64 h.br, .int .i64 h.dr, .int .i64 h.lv, .int .i64 h.dO, .int .i64 h.ld, .int .i64 h.qu, .int .i64 (massN r), .int .i64 0, .int .i64 s.i, .int .i64 s.o, .int .i64 s.l, .int .i64 c.pos, .int .i64 c.vel, .int .i64 c.door]) := by rw [hW0]; exact (h_FP.alloc _)
  clear h_FP
  have FB : Hid (Below w.heap.size w W0) := by rw [hW0]; exact ((Below.refl _ _).alloc (Nat.le_refl _) _)
  have leb0 : w.heap.size ≤ b0 := by omega
  go_enter Try.func50, Try.ntmps50
  go_upto_region 1 with fail
  rw [← hb0, ← hW0]
  clear hb0 hW0
  have FP : Hid (Blk W0.drew pb [.int .i64 h.fl, .int .i64 h.gp, .int .i64 h.ln, .int .i64 h.rf, .int .i64 h.sp, .int .i64 h.pu, .int .i64 h.br, .int .i64 h.dr, .int .i64 h.lv, .int .i64 h.dO, .int .i64 h.ld, .int .i64 h.qu, .int .i64 (massN r), .int .i64 0, .int .i64 s.i, .int .i64 s.o, .int .i64 s.l, .int .i64 c.pos, .int .i64 c.vel, .int .i64 c.door]) := FP.out.below (Below.refl _ _).drew FP.out.lt
  have F0 : Hid (Blk W0.drew b0 [.int .i64 0, .int .i64 0, .int .i64 0, .int .i64 0, .int .i64 0, .int .i64 0, .int .i64 0]) := F0.out.below (Below.refl _ _).drew F0.out.lt
  have FB : Hid (Below w.heap.size w W0.drew) := FB.out.drew
  refine wp_region_held_drew (S := (fun w'' => Blk w'' pb ([.int .i64 h.fl, .int .i64 h.gp, .int .i64 h.ln, .int .i64 h.rf, .int .i64 h.sp, .int .i64 h.pu, .int .i64 h.br, .int .i64 h.dr, .int .i64 h.lv, .int .i64 h.dO, .int .i64 h.ld, .int .i64 h.qu, .int .i64 (massN r), .int .i64 0, .int .i64 s.i, .int .i64 s.o, .int .i64 s.l, .int .i64 c.pos, .int .i64 c.vel, .int .i64 c.door]))) (by kernel_rfl) (by (try dsimp only); first | exact FP.out | go_keep) (fun hHeld => ?_)
  obtain ⟨v_5, hw1⟩ : ∃ v_5, v_5 = W0.drew := ⟨_, rfl⟩
  have FP : Hid (Blk v_5 pb [.int .i64 h.fl, .int .i64 h.gp, .int .i64 h.ln, .int .i64 h.rf, .int .i64 h.sp, .int .i64 h.pu, .int .i64 h.br, .int .i64 h.dr, .int .i64 h.lv, .int .i64 h.dO, .int .i64 h.ld, .int .i64 h.qu, .int .i64 (massN r), .int .i64 0, .int .i64 s.i, .int .i64 s.o, .int .i64 s.l, .int .i64 c.pos, .int .i64 c.vel, .int .i64 c.door]) := by rw [hw1]; exact FP.out
  have F0 : Hid (Blk v_5 b0 [.int .i64 0, .int .i64 0, .int .i64 0, .int .i64 0, .int .i64 0, .int .i64 0, .int .i64 0]) := by rw [hw1]; exact F0.out
  have FB : Hid (Below w.heap.size w v_5) := by rw [hw1]; exact FB.out
  rw [← hw1] at hHeld ⊢
  clear hw1
  refine tkz 0 rfl ?_
  refine tkz 1 rfl ?_
  refine tkz 2 rfl ?_
  refine tkz 3 rfl ?_ (hy := Or.inl ⟨by kernel_rfl, fun wx hSw => exec_load_mid 27 _ 0 [.int .i64 h.fl, .int .i64 h.gp, .int .i64 h.ln, .int .i64 h.rf, .int .i64 h.sp, .int .i64 h.pu, .int .i64 h.br, .int .i64 h.dr, .int .i64 h.lv, .int .i64 h.dO, .int .i64 h.ld, .int .i64 h.qu] Try.underlying27 (by kernel_rfl) rfl rfl rfl hSw⟩)
  refine tkz 4 rfl ?_
  refine tkz 5 rfl ?_
  refine tkz 6 rfl ?_
  refine tkz 7 rfl ?_
  refine tkz 8 rfl ?_ (hy := Or.inl ⟨by kernel_rfl, fun wx hSw => exec_load_mid 34 _ 17 [.int .i64 c.pos, .int .i64 c.vel, .int .i64 c.door] Try.underlying34 (by kernel_rfl) rfl rfl rfl hSw⟩)
  refine wpAnyH_ready (rs := [9]) (by kernel_rfl) (by simp) ?_
  refine (AllReadyH.cons rfl (fun K hK => ?_) AllReadyH.nil)
  go_simp
  refine (CS _).mono ?_
  rintro e v_6 ⟨rfl, hb⟩
  have FP : Hid (Blk v_6 pb [.int .i64 h.fl, .int .i64 h.gp, .int .i64 h.ln, .int .i64 h.rf, .int .i64 h.sp, .int .i64 h.pu, .int .i64 h.br, .int .i64 h.dr, .int .i64 h.lv, .int .i64 h.dO, .int .i64 h.ld, .int .i64 h.qu, .int .i64 (massN r), .int .i64 0, .int .i64 s.i, .int .i64 s.o, .int .i64 s.l, .int .i64 c.pos, .int .i64 c.vel, .int .i64 c.door]) := FP.out.below hb FP.out.lt
  have F0 : Hid (Blk v_6 b0 [.int .i64 0, .int .i64 0, .int .i64 0, .int .i64 0, .int .i64 0, .int .i64 0, .int .i64 0]) := F0.out.below hb F0.out.lt
  have FB : Hid (Below w.heap.size w v_6) := FB.out.trans (hb.mono FB.out.size)
  clear hb
  try dsimp only
  refine hK.out _ _ (by (try dsimp only); first | exact FP.out | go_keep) (fun hHeld => ?_)
  clear hK K
  try simp only [Act.put, List.getElem_toArray, List.getElem_cons_succ, List.getElem_cons_zero, List.setIfInBounds_toArray, List.set_cons_zero, List.set_cons_succ]
  refine tkz 10 rfl ?_
  refine wpAnyH_done (by kernel_rfl) ?_ _
  go_wp2_with (refine store_blk [.int .i64 3, .int .i64 0, .int .i64 0, .int .i64 0, .int .i64 0, .int .i64 0, .int .i64 0] 40 _ _ (by kernel_rfl) (by kernel_rfl) (by kernel_rfl) F0.out rfl rfl rfl rfl ?_)
  exact bodyPost_ret (v := .agg #[.int .i64 3, .int .i64 0, .int .i64 0, .int .i64 0, .int .i64 0, .int .i64 0, .int .i64 0]) ((F0.out.row [.int .i64 3, .int .i64 0, .int .i64 0, .int .i64 0, .int .i64 0, .int .i64 0, .int .i64 0]).res _ Try.results50 Try.underlying40 (by kernel_rfl) rfl) rfl ⟨rfl, below_row FB.out leb0 _⟩
set_option maxRecDepth 20000 in
set_option maxHeartbeats 4000000 in
theorem bkStep_any (h : Hs) (c : Cs) (x : Cm) (d r : Int) (k : CarOk h c) (x1 : -h.pu ≤ x.push) (x2 : x.push ≤ h.pu) (d1 : -h.dr ≤ d) (d2 : d ≤ h.dr) (r1 : 0 ≤ r) (r2 : r ≤ h.ld) (s : Bk) (i1 : 0 ≤ s.i) (i2 : s.i ≤ 4000000000000000) (o1 : 0 ≤ s.o) (o2 : s.o ≤ 4000000000000000) (l1 : 0 ≤ s.l) (l2 : s.l ≤ 4000000000000000) (g : Cs) (hg : stepC h c x d = g) (q : Bk) (hq : s.add (Hs.bkS h c x d r) = q) (pb : Nat) (w : World) (h_FP : Blk w pb [.int .i64 h.fl, .int .i64 h.gp, .int .i64 h.ln, .int .i64 h.rf, .int .i64 h.sp, .int .i64 h.pu, .int .i64 h.br, .int .i64 h.dr, .int .i64 h.lv, .int .i64 h.dO, .int .i64 h.ld, .int .i64 h.qu, .int .i64 (massN r), .int .i64 0, .int .i64 s.i, .int .i64 s.o, .int .i64 s.l, .int .i64 c.pos, .int .i64 c.vel, .int .i64 c.door]) :
    Calls Try.prog 49 #[.pointer (some ⟨pb, 0, none⟩), .agg #[.int .i64 x.push, .bool x.brk, .bool x.opn], .int .i64 d] w fun e w' => e = .returned (.tuple #[]) ∧ Blk w' pb [.int .i64 h.fl, .int .i64 h.gp, .int .i64 h.ln, .int .i64 h.rf, .int .i64 h.sp, .int .i64 h.pu, .int .i64 h.br, .int .i64 h.dr, .int .i64 h.lv, .int .i64 h.dO, .int .i64 h.ld, .int .i64 h.qu, .int .i64 (massN r), .int .i64 0, .int .i64 q.i, .int .i64 q.o, .int .i64 q.l, .int .i64 g.pos, .int .i64 g.vel, .int .i64 g.door] ∧ Below pb w w' := by
  rw [← ent_one] at hq
  have eg : Hs.gain h c x d r = enE h g r - enE h c r := by unfold Hs.gain; rw [hg]
  rw [eg] at hq
  cases hx : (x.brk || x.opn) with
  | true =>
    have e := bkStep_braked h c x d r k x1 x2 d1 d2 r1 r2 hx s i1 i2 l1 l2 g hg _ rfl pb w h_FP
    have hq2 : (⟨s.i + max (enE h g r - enE h c r) 0, s.o, s.l + max (-(enE h g r - enE h c r)) 0⟩ : Bk) = q := by
      rw [← hq, hx]
      unfold entB Bk.add
      rw [if_pos rfl, Int.add_zero]
    rw [← hq2]
    exact e
  | false =>
    have e := bkStep_pushed h c x d r k x1 x2 d1 d2 r1 r2 hx s i1 i2 o1 o2 g hg _ rfl pb w h_FP
    have hq2 : (⟨s.i + max (enE h g r - enE h c r) 0, s.o + max (-(enE h g r - enE h c r)) 0, s.l⟩ : Bk) = q := by
      rw [← hq, hx]
      unfold entB Bk.add
      rw [if_neg (by decide), Int.add_zero]
    rw [← hq2]
    exact e
end Go.Proofs.Ytngdfckknkgdgaa
