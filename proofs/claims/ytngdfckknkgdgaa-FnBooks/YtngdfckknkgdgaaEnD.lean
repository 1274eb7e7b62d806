/-
  Books: what a book has, and what is entered.
-/
import Derived.Test.YtngdfckknkgdgaaEnB
import Derived.Test.YtngdfckknkgdgaaEnC
import Derived.Defers
namespace Go.Proofs.Ytngdfckknkgdgaa
open Go.RowKit Pl
set_option linter.unusedSimpArgs false
set_option linter.unusedVariables false

theorem Blk.two {W w : World} {b j k : Nat} {u v : Value} {vs : List Value} (a : Blk W b vs) (hw : w = (W.setCell ⟨b, j, none⟩ u).setCell ⟨b, k, none⟩ v) (hj : j < vs.length) (hk : k < vs.length) : Blk w b ((vs.set j u).set k v) := by
  rw [hw]
  exact (a.set u hj).set v (by rw [List.length_set]; exact hk)
theorem Blk.two_other {W w : World} {b c j k : Nat} {u v : Value} {vs : List Value} (a : Blk W b vs) (hw : w = (W.setCell ⟨c, j, none⟩ u).setCell ⟨c, k, none⟩ v) (hne : b ≠ c) : Blk w b vs := by
  rw [hw]
  exact (a.other hne).other hne
theorem below_two {W0 W w : World} {B c j k : Nat} {u v : Value} (h : Below B W0 W) (hw : w = (W.setCell ⟨c, j, none⟩ u).setCell ⟨c, k, none⟩ v) (hB : B ≤ c) : Below B W0 w := by
  rw [hw]
  exact (h.setCell hB _).setCell hB _
set_option maxRecDepth 20000 in
set_option maxHeartbeats 16000000 in
theorem bkEnergy_any (h : Hs) (o : h.Ok) (c : Cs) (r : Int) (k : Nr h c) (r1 : 0 ≤ r) (r2 : r ≤ 20) (s : Bk) (pb : Nat) (w : World) (h_FP : Blk w pb [.int .i64 h.fl, .int .i64 h.gp, .int .i64 h.ln, .int .i64 h.rf, .int .i64 h.sp, .int .i64 h.pu, .int .i64 h.br, .int .i64 h.dr, .int .i64 h.lv, .int .i64 h.dO, .int .i64 h.ld, .int .i64 h.qu, .int .i64 (massN r), .int .i64 0, .int .i64 s.i, .int .i64 s.o, .int .i64 s.l, .int .i64 c.pos, .int .i64 c.vel, .int .i64 c.door]) :
    Calls Try.prog 68 #[.pointer (some ⟨pb, 0, none⟩)] w fun e w' => e = .returned (.int .i64 (enE h c r)) ∧ Below w.heap.size w w' := by
  have HO : Hid h.Ok := o
  have HN : Hid (Nr h c) := k
  clear o k
  have ltpb := h_FP.lt
  have FP : Hid (Blk w pb [.int .i64 h.fl, .int .i64 h.gp, .int .i64 h.ln, .int .i64 h.rf, .int .i64 h.sp, .int .i64 h.pu, .int .i64 h.br, .int .i64 h.dr, .int .i64 h.lv, .int .i64 h.dO, .int .i64 h.ld, .int .i64 h.qu, .int .i64 (massN r), .int .i64 0, .int .i64 s.i, .int .i64 s.o, .int .i64 s.l, .int .i64 c.pos, .int .i64 c.vel, .int .i64 c.door]) := h_FP
  clear h_FP
  have FB : Hid (Below w.heap.size w w) := Below.refl _ _
  go_enter Try.func68, Try.ntmps68
  go_upto_region 1 with fail
  have FP : Hid (Blk w.drew pb [.int .i64 h.fl, .int .i64 h.gp, .int .i64 h.ln, .int .i64 h.rf, .int .i64 h.sp, .int .i64 h.pu, .int .i64 h.br, .int .i64 h.dr, .int .i64 h.lv, .int .i64 h.dO, .int .i64 h.ld, .int .i64 h.qu, .int .i64 (massN r), .int .i64 0, .int .i64 s.i, .int .i64 s.o, .int .i64 s.l, .int .i64 c.pos, .int .i64 c.vel, .int .i64 c.door]) := FP.out.below (Below.refl _ _).drew FP.out.lt
  have FB : Hid (Below w.heap.size w w.drew) := FB.out.drew
  refine wp_region_held_drew (S := (fun w'' => Blk w'' pb ([.int .i64 h.fl, .int .i64 h.gp, .int .i64 h.ln, .int .i64 h.rf, .int .i64 h.sp, .int .i64 h.pu, .int .i64 h.br, .int .i64 h.dr, .int .i64 h.lv, .int .i64 h.dO, .int .i64 h.ld, .int .i64 h.qu, .int .i64 (massN r), .int .i64 0, .int .i64 s.i, .int .i64 s.o, .int .i64 s.l, .int .i64 c.pos, .int .i64 c.vel, .int .i64 c.door]))) (by kernel_rfl) (by (try dsimp only); first | exact FP.out | go_keep) (fun hHeld => ?_)
  obtain ⟨v_1, hw1⟩ : ∃ v_1, v_1 = w.drew := ⟨_, rfl⟩
  have FP : Hid (Blk v_1 pb [.int .i64 h.fl, .int .i64 h.gp, .int .i64 h.ln, .int .i64 h.rf, .int .i64 h.sp, .int .i64 h.pu, .int .i64 h.br, .int .i64 h.dr, .int .i64 h.lv, .int .i64 h.dO, .int .i64 h.ld, .int .i64 h.qu, .int .i64 (massN r), .int .i64 0, .int .i64 s.i, .int .i64 s.o, .int .i64 s.l, .int .i64 c.pos, .int .i64 c.vel, .int .i64 c.door]) := by rw [hw1]; exact FP.out
  have FB : Hid (Below w.heap.size w v_1) := by rw [hw1]; exact FB.out
  rw [← hw1] at hHeld ⊢
  clear hw1
  refine tkz 0 rfl ?_
  refine tkz 1 rfl ?_
  refine tkz 2 rfl ?_
  refine tkz 3 rfl ?_ (hy := Or.inl ⟨by kernel_rfl, fun wx hSw => exec_load_mid 27 _ 0 [.int .i64 h.fl, .int .i64 h.gp, .int .i64 h.ln, .int .i64 h.rf, .int .i64 h.sp, .int .i64 h.pu, .int .i64 h.br, .int .i64 h.dr, .int .i64 h.lv, .int .i64 h.dO, .int .i64 h.ld, .int .i64 h.qu] Try.underlying27 (by kernel_rfl) rfl rfl rfl hSw⟩)
  refine tkz 4 rfl ?_
  refine tkz 5 rfl ?_
  refine tkz 6 rfl ?_
  refine tkz 7 rfl ?_
  refine tkz 8 rfl ?_ (hy := Or.inl ⟨by kernel_rfl, fun wx hSw => exec_load_mid 34 _ 17 [.int .i64 c.pos, .int .i64 c.vel, .int .i64 c.door] Try.underlying34 (by kernel_rfl) rfl rfl rfl hSw⟩)
  refine tkz 9 rfl ?_
  refine tkz 10 rfl ?_
  refine tkz 11 rfl ?_
  refine tkz 12 rfl ?_ (hy := Or.inl ⟨by kernel_rfl, by (intro wx hSw; have hq0_12 := hSw.c 12 _ rfl; (try dsimp only at hSw); go_simp <;> with_reducible rfl)⟩)
  refine wpAnyH_ready (rs := [13]) (by kernel_rfl) (by simp) ?_
  refine (AllReadyH.cons rfl (fun K hK => ?_) AllReadyH.nil)
  go_simp
  refine (wholeEnergy_any h HO.out c r HN.out r1 r2 _).mono ?_
  rintro e v_2 ⟨rfl, hb⟩
  have FP : Hid (Blk v_2 pb [.int .i64 h.fl, .int .i64 h.gp, .int .i64 h.ln, .int .i64 h.rf, .int .i64 h.sp, .int .i64 h.pu, .int .i64 h.br, .int .i64 h.dr, .int .i64 h.lv, .int .i64 h.dO, .int .i64 h.ld, .int .i64 h.qu, .int .i64 (massN r), .int .i64 0, .int .i64 s.i, .int .i64 s.o, .int .i64 s.l, .int .i64 c.pos, .int .i64 c.vel, .int .i64 c.door]) := FP.out.below hb FP.out.lt
  have FB : Hid (Below w.heap.size w v_2) := FB.out.trans (hb.mono FB.out.size)
  clear hb
  try dsimp only
  refine hK.out _ _ (by (try dsimp only); first | exact FP.out | go_keep) (fun hHeld => ?_)
  clear hK K
  try simp only [Act.put, List.getElem_toArray, List.getElem_cons_succ, List.getElem_cons_zero, List.setIfInBounds_toArray, List.set_cons_zero, List.set_cons_succ]
  refine tkz 14 rfl ?_
  refine wpAnyH_done (by kernel_rfl) ?_ _
  go_wp2
  go_ret
  exact ⟨rfl, FB.out⟩
/-- What enters a step's gain. -/
def entF (x : Cm) : Nat := if (x.brk || x.opn) = true then 93 else 94
set_option maxRecDepth 20000 in
set_option maxHeartbeats 4000000 in
theorem entryFor_any (x : Cm) (pb : Nat) (w : World) :
    Calls Try.prog 69 #[.pointer (some ⟨pb, 0, none⟩), .agg #[.int .i64 x.push, .bool x.brk, .bool x.opn]] w fun e w' => e = .returned (.func (.func (entF x)) #[.pointer (some ⟨pb, 0, none⟩)] #[]) ∧ Below w.heap.size w w' := by
  have hmf : ∀ (fn : Fn) (first cap : Array Value) (w : World), (Instr.makeFunc fn first cap).run Try.prog w = .ok (.func fn first cap) w := fun _ _ _ _ => rfl
  obtain ⟨xp, xb, xo⟩ := x
  have FB : Hid (Below w.heap.size w (w.alloc (.cells #[.int .i64 xp, .bool xb, .bool xo] 42))) := (Below.refl _ _).alloc (Nat.le_refl _) _
  cases xb <;> cases xo
  · show Calls _ _ _ _ fun e w' => e = .returned (.func (.func 94) _ _) ∧ _
    go_enter Try.func69, Try.ntmps69
    go_wp2
    go_ret
    exact ⟨rfl, FB.out⟩
  all_goals
    show Calls _ _ _ _ fun e w' => e = .returned (.func (.func 93) _ _) ∧ _
    go_enter Try.func69, Try.ntmps69
    go_wp2
    go_ret
    exact ⟨rfl, FB.out⟩
set_option maxRecDepth 20000 in
set_option maxHeartbeats 4000000 in
theorem enterBraked_any (e i l : Int) (e1 : -1000000000000 ≤ e) (e2 : e ≤ 1000000000000) (i1 : 0 ≤ i) (i2 : i ≤ 4000000000000000) (l1 : 0 ≤ l) (l2 : l ≤ 4000000000000000) (pb : Nat) (w : World) (c1 : w.cell? ⟨pb, 14, none⟩ = some (.int .i64 i)) (f1 : w.frozen? ⟨pb, 14, none⟩ = false) (c2 : w.cell? ⟨pb, 16, none⟩ = some (.int .i64 l)) (f2 : w.frozen? ⟨pb, 16, none⟩ = false) :
    Calls Try.prog 93 #[.pointer (some ⟨pb, 0, none⟩), .int .i64 e] w fun e' w' => e' = .returned (.tuple #[]) ∧ w' = (w.setCell ⟨pb, 14, none⟩ (.int .i64 (i + max e 0))).setCell ⟨pb, 16, none⟩ (.int .i64 (l + max (-e) 0)) := by
  rcases Int.lt_trichotomy e 0 with h | h | h
  · have m1 : max e 0 = 0 := by omega
    have m2 : max (-e) 0 = -e := by omega
    rw [m1, m2]
    clear m1 m2
    go_enter Try.func93, Try.ntmps93
    go_wp2
    go_end0
    first | exact ⟨rfl, rfl⟩ | simp
  · subst h
    go_enter Try.func93, Try.ntmps93
    go_wp2
    go_end0
    first | exact ⟨rfl, rfl⟩ | simp
  · have m1 : max e 0 = e := by omega
    have m2 : max (-e) 0 = 0 := by omega
    rw [m1, m2]
    clear m1 m2
    go_enter Try.func93, Try.ntmps93
    go_wp2
    go_end0
    first | exact ⟨rfl, rfl⟩ | simp
set_option maxRecDepth 20000 in
set_option maxHeartbeats 4000000 in
theorem enterPushed_any (e i l : Int) (e1 : -1000000000000 ≤ e) (e2 : e ≤ 1000000000000) (i1 : 0 ≤ i) (i2 : i ≤ 4000000000000000) (l1 : 0 ≤ l) (l2 : l ≤ 4000000000000000) (pb : Nat) (w : World) (c1 : w.cell? ⟨pb, 14, none⟩ = some (.int .i64 i)) (f1 : w.frozen? ⟨pb, 14, none⟩ = false) (c2 : w.cell? ⟨pb, 15, none⟩ = some (.int .i64 l)) (f2 : w.frozen? ⟨pb, 15, none⟩ = false) :
    Calls Try.prog 94 #[.pointer (some ⟨pb, 0, none⟩), .int .i64 e] w fun e' w' => e' = .returned (.tuple #[]) ∧ w' = (w.setCell ⟨pb, 14, none⟩ (.int .i64 (i + max e 0))).setCell ⟨pb, 15, none⟩ (.int .i64 (l + max (-e) 0)) := by
  rcases Int.lt_trichotomy e 0 with h | h | h
  · have m1 : max e 0 = 0 := by omega
    have m2 : max (-e) 0 = -e := by omega
    rw [m1, m2]
    clear m1 m2
    go_enter Try.func94, Try.ntmps94
    go_wp2
    go_end0
    first | exact ⟨rfl, rfl⟩ | simp
  · subst h
    go_enter Try.func94, Try.ntmps94
    go_wp2
    go_end0
    first | exact ⟨rfl, rfl⟩ | simp
  · have m1 : max e 0 = e := by omega
    have m2 : max (-e) 0 = 0 := by omega
    rw [m1, m2]
    clear m1 m2
    go_enter Try.func94, Try.ntmps94
    go_wp2
    go_end0
    first | exact ⟨rfl, rfl⟩ | simp
set_option maxRecDepth 20000 in
set_option maxHeartbeats 16000000 in
theorem step1_braked (h : Hs) (o : h.Ok) (c : Cs) (r ah : Int) (k : Nr h c) (r1 : 0 ≤ r) (r2 : r ≤ 20) (a1 : -500000000000 ≤ ah) (a2 : ah ≤ 500000000000) (s : Bk) (i1 : 0 ≤ s.i) (i2 : s.i ≤ 4000000000000000) (o1 : 0 ≤ s.l) (o2 : s.l ≤ 4000000000000000) (pb b7 b3 b6 : Nat) (n7 : pb < b7) (n3 : pb < b3) (n6 : pb < b6) (u : FrameMode) (w : World) (h_FP : Blk w pb [.int .i64 h.fl, .int .i64 h.gp, .int .i64 h.ln, .int .i64 h.rf, .int .i64 h.sp, .int .i64 h.pu, .int .i64 h.br, .int .i64 h.dr, .int .i64 h.lv, .int .i64 h.dO, .int .i64 h.ld, .int .i64 h.qu, .int .i64 (massN r), .int .i64 0, .int .i64 s.i, .int .i64 s.o, .int .i64 s.l, .int .i64 c.pos, .int .i64 c.vel, .int .i64 c.door]) (h_E7 : Blk w b7 [.func (.func 93) #[.pointer (some ⟨pb, 0, none⟩)] #[]]) (h_E3 : Blk w b3 [.pointer (some ⟨pb, 0, none⟩)]) (h_E6 : Blk w b6 [.int .i64 ah]) :
    CallsD Try.prog 70 #[.pointer (some ⟨b7, 0, none⟩), .pointer (some ⟨b3, 0, none⟩), .pointer (some ⟨b6, 0, none⟩)] u w fun e u' w' => u' = u ∧ (e = .returned (.tuple #[]) ∧ Blk w' pb [.int .i64 h.fl, .int .i64 h.gp, .int .i64 h.ln, .int .i64 h.rf, .int .i64 h.sp, .int .i64 h.pu, .int .i64 h.br, .int .i64 h.dr, .int .i64 h.lv, .int .i64 h.dO, .int .i64 h.ld, .int .i64 h.qu, .int .i64 (massN r), .int .i64 0, .int .i64 (s.i + max (enE h c r - ah) 0), .int .i64 s.o, .int .i64 (s.l + max (-(enE h c r - ah)) 0), .int .i64 c.pos, .int .i64 c.vel, .int .i64 c.door] ∧ Below pb w w') := by
  have HO : Hid h.Ok := o
  have HN : Hid (Nr h c) := k
  have eb := k.en o r1 r2
  have ew : IntKind.i64.wrap (enE h c r - ah) = enE h c r - ah := IntWalk.i64_in _ (by omega)
  clear o k
  have lt0 := h_FP.lt
  have FP : Hid (Blk w pb [.int .i64 h.fl, .int .i64 h.gp, .int .i64 h.ln, .int .i64 h.rf, .int .i64 h.sp, .int .i64 h.pu, .int .i64 h.br, .int .i64 h.dr, .int .i64 h.lv, .int .i64 h.dO, .int .i64 h.ld, .int .i64 h.qu, .int .i64 (massN r), .int .i64 0, .int .i64 s.i, .int .i64 s.o, .int .i64 s.l, .int .i64 c.pos, .int .i64 c.vel, .int .i64 c.door]) := h_FP
  have E7 : Hid (Blk w b7 [.func (.func 93) #[.pointer (some ⟨pb, 0, none⟩)] #[]]) := h_E7
  have E3 : Hid (Blk w b3 [.pointer (some ⟨pb, 0, none⟩)]) := h_E3
  have E6 : Hid (Blk w b6 [.int .i64 ah]) := h_E6
  have FB : Hid (Below pb w w) := Below.refl _ _
  clear h_FP h_E7 h_E3 h_E6
  go_enter_d Try.func70, Try.ntmps70
  have FP : Hid (Blk w.drew pb [.int .i64 h.fl, .int .i64 h.gp, .int .i64 h.ln, .int .i64 h.rf, .int .i64 h.sp, .int .i64 h.pu, .int .i64 h.br, .int .i64 h.dr, .int .i64 h.lv, .int .i64 h.dO, .int .i64 h.ld, .int .i64 h.qu, .int .i64 (massN r), .int .i64 0, .int .i64 s.i, .int .i64 s.o, .int .i64 s.l, .int .i64 c.pos, .int .i64 c.vel, .int .i64 c.door]) := FP.out.below (Below.refl _ _).drew FP.out.lt
  have E7 : Hid (Blk w.drew b7 [.func (.func 93) #[.pointer (some ⟨pb, 0, none⟩)] #[]]) := E7.out.below (Below.refl _ _).drew E7.out.lt
  have E3 : Hid (Blk w.drew b3 [.pointer (some ⟨pb, 0, none⟩)]) := E3.out.below (Below.refl _ _).drew E3.out.lt
  have E6 : Hid (Blk w.drew b6 [.int .i64 ah]) := E6.out.below (Below.refl _ _).drew E6.out.lt
  have FB : Hid (Below pb w w.drew) := FB.out.drew
  refine wp_region_held_drew (S := (fun w'' => Blk w'' b7 ([.func (.func 93) #[.pointer (some ⟨pb, 0, none⟩)] #[]]) ∧ Blk w'' b3 ([.pointer (some ⟨pb, 0, none⟩)]) ∧ Blk w'' b6 ([.int .i64 ah]))) (by kernel_rfl) (by (try dsimp only); first | exact ⟨E7.out, E3.out, E6.out⟩ | go_keep) (fun hHeld => ?_)
  obtain ⟨v_3, hw1⟩ : ∃ v_3, v_3 = w.drew := ⟨_, rfl⟩
  have FP : Hid (Blk v_3 pb [.int .i64 h.fl, .int .i64 h.gp, .int .i64 h.ln, .int .i64 h.rf, .int .i64 h.sp, .int .i64 h.pu, .int .i64 h.br, .int .i64 h.dr, .int .i64 h.lv, .int .i64 h.dO, .int .i64 h.ld, .int .i64 h.qu, .int .i64 (massN r), .int .i64 0, .int .i64 s.i, .int .i64 s.o, .int .i64 s.l, .int .i64 c.pos, .int .i64 c.vel, .int .i64 c.door]) := by rw [hw1]; exact FP.out
  have E7 : Hid (Blk v_3 b7 [.func (.func 93) #[.pointer (some ⟨pb, 0, none⟩)] #[]]) := by rw [hw1]; exact E7.out
  have E3 : Hid (Blk v_3 b3 [.pointer (some ⟨pb, 0, none⟩)]) := by rw [hw1]; exact E3.out
  have E6 : Hid (Blk v_3 b6 [.int .i64 ah]) := by rw [hw1]; exact E6.out
  have FB : Hid (Below pb w v_3) := by rw [hw1]; exact FB.out
  rw [← hw1] at hHeld ⊢
  clear hw1
  refine tkz 0 rfl ?_ (hy := Or.inl ⟨by kernel_rfl, by (intro wx hSw; have hq0_0 := hSw.1.c 0 _ rfl; (try dsimp only at hSw); go_simp <;> with_reducible rfl)⟩)
  refine tkz 1 rfl ?_ (hy := Or.inl ⟨by kernel_rfl, by (intro wx hSw; have hq1_0 := hSw.2.1.c 0 _ rfl; (try dsimp only at hSw); go_simp <;> with_reducible rfl)⟩)
  refine tkz 3 rfl ?_ (hy := Or.inl ⟨by kernel_rfl, by (intro wx hSw; have hq2_0 := hSw.2.2.c 0 _ rfl; (try dsimp only at hSw); go_simp <;> with_reducible rfl)⟩)
  refine wpAnyH_ready (rs := [2]) (by kernel_rfl) (by simp) ?_
  refine (AllReadyH.cons rfl (fun K hK => ?_) AllReadyH.nil)
  go_simp
  refine (bkEnergy_any h HO.out c r HN.out r1 r2 s pb _ FP.out).mono ?_
  rintro e v_4 ⟨rfl, hb⟩
  have FP : Hid (Blk v_4 pb [.int .i64 h.fl, .int .i64 h.gp, .int .i64 h.ln, .int .i64 h.rf, .int .i64 h.sp, .int .i64 h.pu, .int .i64 h.br, .int .i64 h.dr, .int .i64 h.lv, .int .i64 h.dO, .int .i64 h.ld, .int .i64 h.qu, .int .i64 (massN r), .int .i64 0, .int .i64 s.i, .int .i64 s.o, .int .i64 s.l, .int .i64 c.pos, .int .i64 c.vel, .int .i64 c.door]) := FP.out.below hb FP.out.lt
  have E7 : Hid (Blk v_4 b7 [.func (.func 93) #[.pointer (some ⟨pb, 0, none⟩)] #[]]) := E7.out.below hb E7.out.lt
  have E3 : Hid (Blk v_4 b3 [.pointer (some ⟨pb, 0, none⟩)]) := E3.out.below hb E3.out.lt
  have E6 : Hid (Blk v_4 b6 [.int .i64 ah]) := E6.out.below hb E6.out.lt
  have FB : Hid (Below pb w v_4) := FB.out.trans (hb.mono (Nat.le_of_lt (Nat.lt_of_lt_of_le lt0 FB.out.size)))
  clear hb
  try dsimp only
  refine hK.out _ _ (by (try dsimp only); first | exact ⟨E7.out, E3.out, E6.out⟩ | go_keep) (fun hHeld => ?_)
  clear hK K
  try simp only [Act.put, List.getElem_toArray, List.getElem_cons_succ, List.getElem_cons_zero, List.setIfInBounds_toArray, List.set_cons_zero, List.set_cons_succ]
  refine tkz 4 rfl ?_
  refine wpAnyH_ready (rs := [5]) (by kernel_rfl) (by simp) ?_
  refine (AllReadyH.cons rfl (fun K hK => ?_) AllReadyH.nil)
  go_simp
  refine (enterBraked_any (enE h c r - ah) s.i s.l (by omega) (by omega) i1 i2 o1 o2 pb _ (FP.out.c 14 _ rfl) (FP.out.f 14 (Nat.le_of_ble_eq_true rfl)) (FP.out.c 16 _ rfl) (FP.out.f 16 (Nat.le_of_ble_eq_true rfl))).mono ?_
  rintro e v_5 ⟨rfl, hw⟩
  have FP : Hid (Blk v_5 pb [.int .i64 h.fl, .int .i64 h.gp, .int .i64 h.ln, .int .i64 h.rf, .int .i64 h.sp, .int .i64 h.pu, .int .i64 h.br, .int .i64 h.dr, .int .i64 h.lv, .int .i64 h.dO, .int .i64 h.ld, .int .i64 h.qu, .int .i64 (massN r), .int .i64 0, .int .i64 (s.i + max (enE h c r - ah) 0), .int .i64 s.o, .int .i64 (s.l + max (-(enE h c r - ah)) 0), .int .i64 c.pos, .int .i64 c.vel, .int .i64 c.door]) := (Blk.two FP.out hw (Nat.le_of_ble_eq_true rfl) (Nat.le_of_ble_eq_true rfl))
  have E7 : Hid (Blk v_5 b7 [.func (.func 93) #[.pointer (some ⟨pb, 0, none⟩)] #[]]) := E7.out.two_other hw (by omega)
  have E3 : Hid (Blk v_5 b3 [.pointer (some ⟨pb, 0, none⟩)]) := E3.out.two_other hw (by omega)
  have E6 : Hid (Blk v_5 b6 [.int .i64 ah]) := E6.out.two_other hw (by omega)
  have FB : Hid (Below pb w v_5) := below_two FB.out hw (Nat.le_refl _)
  clear hw
  try dsimp only
  refine hK.out _ _ (by (try dsimp only); first | exact ⟨E7.out, E3.out, E6.out⟩ | go_keep) (fun hHeld => ?_)
  clear hK K
  try simp only [Act.put, List.getElem_toArray, List.getElem_cons_succ, List.getElem_cons_zero, List.setIfInBounds_toArray, List.set_cons_zero, List.set_cons_succ]
  refine wpAnyH_done (by kernel_rfl) ?_ _
  go_wp2
  go_end0
  exact ⟨rfl, FP.out, FB.out⟩
set_option maxRecDepth 20000 in
set_option maxHeartbeats 16000000 in
theorem step1_pushed (h : Hs) (o : h.Ok) (c : Cs) (r ah : Int) (k : Nr h c) (r1 : 0 ≤ r) (r2 : r ≤ 20) (a1 : -500000000000 ≤ ah) (a2 : ah ≤ 500000000000) (s : Bk) (i1 : 0 ≤ s.i) (i2 : s.i ≤ 4000000000000000) (o1 : 0 ≤ s.o) (o2 : s.o ≤ 4000000000000000) (pb b7 b3 b6 : Nat) (n7 : pb < b7) (n3 : pb < b3) (n6 : pb < b6) (u : FrameMode) (w : World) (h_FP : Blk w pb [.int .i64 h.fl, .int .i64 h.gp, .int .i64 h.ln, .int .i64 h.rf, .int .i64 h.sp, .int .i64 h.pu, .int .i64 h.br, .int .i64 h.dr, .int .i64 h.lv, .int .i64 h.dO, .int .i64 h.ld, .int .i64 h.qu, .int .i64 (massN r), .int .i64 0, .int .i64 s.i, .int .i64 s.o, .int .i64 s.l, .int .i64 c.pos, .int .i64 c.vel, .int .i64 c.door]) (h_E7 : Blk w b7 [.func (.func 94) #[.pointer (some ⟨pb, 0, none⟩)] #[]]) (h_E3 : Blk w b3 [.pointer (some ⟨pb, 0, none⟩)]) (h_E6 : Blk w b6 [.int .i64 ah]) :
    CallsD Try.prog 70 #[.pointer (some ⟨b7, 0, none⟩), .pointer (some ⟨b3, 0, none⟩), .pointer (some ⟨b6, 0, none⟩)] u w fun e u' w' => u' = u ∧ (e = .returned (.tuple #[]) ∧ Blk w' pb [.int .i64 h.fl, .int .i64 h.gp, .int .i64 h.ln, .int .i64 h.rf, .int .i64 h.sp, .int .i64 h.pu, .int .i64 h.br, .int .i64 h.dr, .int .i64 h.lv, .int .i64 h.dO, .int .i64 h.ld, .int .i64 h.qu, .int .i64 (massN r), .int .i64 0, .int .i64 (s.i + max (enE h c r - ah) 0), .int .i64 (s.o + max (-(enE h c r - ah)) 0), .int .i64 s.l, .int .i64 c.pos, .int .i64 c.vel, .int .i64 c.door] ∧ Below pb w w') := by
  have HO : Hid h.Ok := o
  have HN : Hid (Nr h c) := k
  have eb := k.en o r1 r2
  have ew : IntKind.i64.wrap (enE h c r - ah) = enE h c r - ah := IntWalk.i64_in _ (by omega)
  clear o k
  have lt0 := h_FP.lt
  have FP : Hid (Blk w pb [.int .i64 h.fl, .int .i64 h.gp, .int .i64 h.ln, .int .i64 h.rf, .int .i64 h.sp, .int .i64 h.pu, .int .i64 h.br, .int .i64 h.dr, .int .i64 h.lv, .int .i64 h.dO, .int .i64 h.ld, .int .i64 h.qu, .int .i64 (massN r), .int .i64 0, .int .i64 s.i, .int .i64 s.o, .int .i64 s.l, .int .i64 c.pos, .int .i64 c.vel, .int .i64 c.door]) := h_FP
  have E7 : Hid (Blk w b7 [.func (.func 94) #[.pointer (some ⟨pb, 0, none⟩)] #[]]) := h_E7
  have E3 : Hid (Blk w b3 [.pointer (some ⟨pb, 0, none⟩)]) := h_E3
  have E6 : Hid (Blk w b6 [.int .i64 ah]) := h_E6
  have FB : Hid (Below pb w w) := Below.refl _ _
  clear h_FP h_E7 h_E3 h_E6
  go_enter_d Try.func70, Try.ntmps70
  have FP : Hid (Blk w.drew pb [.int .i64 h.fl, .int .i64 h.gp, .int .i64 h.ln, .int .i64 h.rf, .int .i64 h.sp, .int .i64 h.pu, .int .i64 h.br, .int .i64 h.dr, .int .i64 h.lv, .int .i64 h.dO, .int .i64 h.ld, .int .i64 h.qu, .int .i64 (massN r), .int .i64 0, .int .i64 s.i, .int .i64 s.o, .int .i64 s.l, .int .i64 c.pos, .int .i64 c.vel, .int .i64 c.door]) := FP.out.below (Below.refl _ _).drew FP.out.lt
  have E7 : Hid (Blk w.drew b7 [.func (.func 94) #[.pointer (some ⟨pb, 0, none⟩)] #[]]) := E7.out.below (Below.refl _ _).drew E7.out.lt
  have E3 : Hid (Blk w.drew b3 [.pointer (some ⟨pb, 0, none⟩)]) := E3.out.below (Below.refl _ _).drew E3.out.lt
  have E6 : Hid (Blk w.drew b6 [.int .i64 ah]) := E6.out.below (Below.refl _ _).drew E6.out.lt
  have FB : Hid (Below pb w w.drew) := FB.out.drew
  refine wp_region_held_drew (S := (fun w'' => Blk w'' b7 ([.func (.func 94) #[.pointer (some ⟨pb, 0, none⟩)] #[]]) ∧ Blk w'' b3 ([.pointer (some ⟨pb, 0, none⟩)]) ∧ Blk w'' b6 ([.int .i64 ah]))) (by kernel_rfl) (by (try dsimp only); first | exact ⟨E7.out, E3.out, E6.out⟩ | go_keep) (fun hHeld => ?_)
  obtain ⟨v_6, hw1⟩ : ∃ v_6, v_6 = w.drew := ⟨_, rfl⟩
  have FP : Hid (Blk v_6 pb [.int .i64 h.fl, .int .i64 h.gp, .int .i64 h.ln, .int .i64 h.rf, .int .i64 h.sp, .int .i64 h.pu, .int .i64 h.br, .int .i64 h.dr, .int .i64 h.lv, .int .i64 h.dO, .int .i64 h.ld, .int .i64 h.qu, .int .i64 (massN r), .int .i64 0, .int .i64 s.i, .int .i64 s.o, .int .i64 s.l, .int .i64 c.pos, .int .i64 c.vel, .int .i64 c.door]) := by rw [hw1]; exact FP.out
  have E7 : Hid (Blk v_6 b7 [.func (.func 94) #[.pointer (some ⟨pb, 0, none⟩)] #[]]) := by rw [hw1]; exact E7.out
  have E3 : Hid (Blk v_6 b3 [.pointer (some ⟨pb, 0, none⟩)]) := by rw [hw1]; exact E3.out
  have E6 : Hid (Blk v_6 b6 [.int .i64 ah]) := by rw [hw1]; exact E6.out
  have FB : Hid (Below pb w v_6) := by rw [hw1]; exact FB.out
  rw [← hw1] at hHeld ⊢
  clear hw1
  refine tkz 0 rfl ?_ (hy := Or.inl ⟨by kernel_rfl, by (intro wx hSw; have hq0_0 := hSw.1.c 0 _ rfl; (try dsimp only at hSw); go_simp <;> with_reducible rfl)⟩)
  refine tkz 1 rfl ?_ (hy := Or.inl ⟨by kernel_rfl, by (intro wx hSw; have hq1_0 := hSw.2.1.c 0 _ rfl; (try dsimp only at hSw); go_simp <;> with_reducible rfl)⟩)
  refine tkz 3 rfl ?_ (hy := Or.inl ⟨by kernel_rfl, by (intro wx hSw; have hq2_0 := hSw.2.2.c 0 _ rfl; (try dsimp only at hSw); go_simp <;> with_reducible rfl)⟩)
  refine wpAnyH_ready (rs := [2]) (by kernel_rfl) (by simp) ?_
  refine (AllReadyH.cons rfl (fun K hK => ?_) AllReadyH.nil)
  go_simp
  refine (bkEnergy_any h HO.out c r HN.out r1 r2 s pb _ FP.out).mono ?_
  rintro e v_7 ⟨rfl, hb⟩
  have FP : Hid (Blk v_7 pb [.int .i64 h.fl, .int .i64 h.gp, .int .i64 h.ln, .int .i64 h.rf, .int .i64 h.sp, .int .i64 h.pu, .int .i64 h.br, .int .i64 h.dr, .int .i64 h.lv, .int .i64 h.dO, .int .i64 h.ld, .int .i64 h.qu, .int .i64 (massN r), .int .i64 0, .int .i64 s.i, .int .i64 s.o, .int .i64 s.l, .int .i64 c.pos, .int .i64 c.vel, .int .i64 c.door]) := FP.out.below hb FP.out.lt
  have E7 : Hid (Blk v_7 b7 [.func (.func 94) #[.pointer (some ⟨pb, 0, none⟩)] #[]]) := E7.out.below hb E7.out.lt
  have E3 : Hid (Blk v_7 b3 [.pointer (some ⟨pb, 0, none⟩)]) := E3.out.below hb E3.out.lt
  have E6 : Hid (Blk v_7 b6 [.int .i64 ah]) := E6.out.below hb E6.out.lt
  have FB : Hid (Below pb w v_7) := FB.out.trans (hb.mono (Nat.le_of_lt (Nat.lt_of_lt_of_le lt0 FB.out.size)))
  clear hb
  try dsimp only
  refine hK.out _ _ (by (try dsimp only); first | exact ⟨E7.out, E3.out, E6.out⟩ | go_keep) (fun hHeld => ?_)
  clear hK K
  try simp only [Act.put, List.getElem_toArray, List.getElem_cons_succ, List.getElem_cons_zero, List.setIfInBounds_toArray, List.set_cons_zero, List.set_cons_succ]
  refine tkz 4 rfl ?_
  refine wpAnyH_ready (rs := [5]) (by kernel_rfl) (by simp) ?_
  refine (AllReadyH.cons rfl (fun K hK => ?_) AllReadyH.nil)
  go_simp
  refine (enterPushed_any (enE h c r - ah) s.i s.o (by omega) (by omega) i1 i2 o1 o2 pb _ (FP.out.c 14 _ rfl) (FP.out.f 14 (Nat.le_of_ble_eq_true rfl)) (FP.out.c 15 _ rfl) (FP.out.f 15 (Nat.le_of_ble_eq_true rfl))).mono ?_
  rintro e v_8 ⟨rfl, hw⟩
  have FP : Hid (Blk v_8 pb [.int .i64 h.fl, .int .i64 h.gp, .int .i64 h.ln, .int .i64 h.rf, .int .i64 h.sp, .int .i64 h.pu, .int .i64 h.br, .int .i64 h.dr, .int .i64 h.lv, .int .i64 h.dO, .int .i64 h.ld, .int .i64 h.qu, .int .i64 (massN r), .int .i64 0, .int .i64 (s.i + max (enE h c r - ah) 0), .int .i64 (s.o + max (-(enE h c r - ah)) 0), .int .i64 s.l, .int .i64 c.pos, .int .i64 c.vel, .int .i64 c.door]) := (Blk.two FP.out hw (Nat.le_of_ble_eq_true rfl) (Nat.le_of_ble_eq_true rfl))
  have E7 : Hid (Blk v_8 b7 [.func (.func 94) #[.pointer (some ⟨pb, 0, none⟩)] #[]]) := E7.out.two_other hw (by omega)
  have E3 : Hid (Blk v_8 b3 [.pointer (some ⟨pb, 0, none⟩)]) := E3.out.two_other hw (by omega)
  have E6 : Hid (Blk v_8 b6 [.int .i64 ah]) := E6.out.two_other hw (by omega)
  have FB : Hid (Below pb w v_8) := below_two FB.out hw (Nat.le_refl _)
  clear hw
  try dsimp only
  refine hK.out _ _ (by (try dsimp only); first | exact ⟨E7.out, E3.out, E6.out⟩ | go_keep) (fun hHeld => ?_)
  clear hK K
  try simp only [Act.put, List.getElem_toArray, List.getElem_cons_succ, List.getElem_cons_zero, List.setIfInBounds_toArray, List.set_cons_zero, List.set_cons_succ]
  refine wpAnyH_done (by kernel_rfl) ?_ _
  go_wp2
  go_end0
  exact ⟨rfl, FP.out, FB.out⟩
end Go.Proofs.Ytngdfckknkgdgaa
