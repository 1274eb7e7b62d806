/-
  The law FnSpans.
-/
import Derived.Test.YtpfihpplpefikaaSpanV
namespace Go.Proofs.Ytpfihpplpefikaa
open Go.RowKit Pl
set_option linter.unusedSimpArgs false
set_option linter.unusedVariables false

theorem load_blkh {ops : Array Oper} {rest : List Oper} {o : Oper} {act : Act} {w : World} {Q : Exit → Act → World → Prop} {b : Nat} {vs : List Value} (T : TypeId) (x : Operand) {fs : Array Field} (hu : Try.prog.underlying T = some (.struct fs)) (hi : (Try.prog.info? T).map (·.size) = some vs.toArray.size) (hB : Blk w b vs)
    (hw : Region.wanted o (yielded ops act.tmps) = true) (ho : o.op = .load T x) (hx : act.eval x = .pointer (some ⟨b, 0, none⟩)) (h : wpList Try.prog ops Q rest (act.put o.dst (.agg vs.toArray)) w) : wpList Try.prog ops Q (o :: rest) act w := by
  obtain ⟨T', h'⟩ := hB.o
  exact wpList_step fun K hK => by simp only [hw, if_true]; exact wp_load_row T x ho b hx T' vs.toArray (0, 0) (.struct fs) h' hu rfl hi (hK _ _ h)
set_option maxRecDepth 20000 in
set_option maxHeartbeats 32000000 in
theorem spans_walk (a0 : Option Addr) (len0 cap0 : Nat) (w : World) (hc : CodeIn w w.heap.size a0 len0) (hbig : len0 ≤ 1048576) :
    Calls Try.prog 3 #[.slice a0 len0 cap0] w fun e w' => e = .returned (.bool true) ∧ Below w.heap.size w w' := by
  have HC : Hid (CodeIn w w.heap.size a0 len0) := hc
  clear hc
  go_enter Try.func3, Try.ntmps3
  go_wp2_with (first | (go_at_call 6; refine (lwBig_no _ _ _ hbig _).mono ?_; rintro e w' ⟨rfl, hw⟩; obtain rfl := hw.symm; clear hw))
  refine (DrawExtendSpans_any a0 len0 cap0 _ HC.out).mono ?_
  rintro e w1 ⟨h, x, p, q, rfl, hb⟩
  clear HC hbig
  go_upto_region 4 with fail
  have hsz := hb.size
  obtain ⟨w2, hw2⟩ : ∃ w2, w2 = (w1.alloc (.cells #[.int .i64 h.fl, .int .i64 h.gp, .int .i64 h.ln, .int .i64 h.rf, .int .i64 h.sp, .int .i64 h.pu, .int .i64 h.br, .int .i64 h.dr, .int .i64 h.lv, .int .i64 h.dO, .int .i64 h.ld, .int .i64 h.qu] 25)).alloc (.cells #[.int .i64 x.l.lo, .int .i64 x.l.hi, .int .i64 x.u.lo, .int .i64 x.u.hi] 29) := ⟨_, rfl⟩
  obtain ⟨b1, hb1⟩ : ∃ b1, b1 = w1.heap.size := ⟨_, rfl⟩
  obtain ⟨b2, hb2⟩ : ∃ b2, b2 = w1.heap.size + 1 := ⟨_, rfl⟩
  have l12 : b1 < b2 := by omega
  have lw1 : w.heap.size ≤ b1 := by omega
  have F0 : Hid (Blk w2 b1 [.int .i64 h.fl, .int .i64 h.gp, .int .i64 h.ln, .int .i64 h.rf, .int .i64 h.sp, .int .i64 h.pu, .int .i64 h.br, .int .i64 h.dr, .int .i64 h.lv, .int .i64 h.dO, .int .i64 h.ld, .int .i64 h.qu]) := by rw [hw2]; exact (Blk.at_ w1 _ _ _ hb1).alloc _
  have F1 : Hid (Blk w2 b2 [.int .i64 x.l.lo, .int .i64 x.l.hi, .int .i64 x.u.lo, .int .i64 x.u.hi]) := by rw [hw2]; exact Blk.at_ _ _ _ _ (by simp; omega)
  have FB : Hid (Below w.heap.size w w2) := by rw [hw2]; exact (hb.alloc hb.size _).alloc (by simp; omega) _
  rw [← hw2, ← hb2, ← hb1]
  clear hw2 hb1 hb2 hb hsz
  by_cases k : (Hs.extK h x p q) = 0
  case neg =>
    have hv : Hs.extV h x p q = ⟨⟨0, 0⟩, ⟨0, 0⟩⟩ := if_neg k
    have hn : ((Hs.extK h x p q) != 0) = true := by simpa using k
    have fp : ∀ W, (Instr.field 33 (.agg #[.int .i64 (Hs.extK h x p q), .int .i64 0, .int .i64 0, .int .i64 0, .int .i64 0]) 0).run Try.prog W = .ok (.int .i64 (Hs.extK h x p q)) W := fun W => by kernel_rfl
    clear k
    go_upto_region 5 with (first | (refine load_blk 25 _ Try.underlying25 (by kernel_rfl) F0.out rfl rfl rfl ?_) | (refine load_blk 29 _ Try.underlying29 (by kernel_rfl) F1.out rfl rfl rfl ?_) | (go_at_call 8; refine (implExtendSpans_any h x p q _).mono ?_; unfold isSps; rw [hv]; rintro e w3 ⟨rfl, hb⟩; have F0 : Hid (Blk w3 b1 [.int .i64 h.fl, .int .i64 h.gp, .int .i64 h.ln, .int .i64 h.rf, .int .i64 h.sp, .int .i64 h.pu, .int .i64 h.br, .int .i64 h.dr, .int .i64 h.lv, .int .i64 h.dO, .int .i64 h.ld, .int .i64 h.qu]) := F0.out.below hb F0.out.lt; have F1 : Hid (Blk w3 b2 [.int .i64 x.l.lo, .int .i64 x.l.hi, .int .i64 x.u.lo, .int .i64 x.u.hi]) := F1.out.below hb F1.out.lt; have FB : Hid (Below w.heap.size w w3) := FB.out.trans (hb.mono FB.out.size); clear hb) | (refine store_new [.int .i64 (Hs.extK h x p q), .int .i64 0, .int .i64 0, .int .i64 0, .int .i64 0] 33 _ _ (by kernel_rfl) (by kernel_rfl) (by kernel_rfl) rfl rfl rfl rfl ?_))
    obtain ⟨b3, hbb⟩ : ∃ b, b = w3.heap.size := ⟨_, rfl⟩
    obtain ⟨w4, hw2⟩ : ∃ W, W = w3.alloc (.cells ([.int .i64 (Hs.extK h x p q), .int .i64 0, .int .i64 0, .int .i64 0, .int .i64 0] : List Value).toArray 33) := ⟨_, rfl⟩
    have F0 : Hid (Blk w4 b1 [.int .i64 h.fl, .int .i64 h.gp, .int .i64 h.ln, .int .i64 h.rf, .int .i64 h.sp, .int .i64 h.pu, .int .i64 h.br, .int .i64 h.dr, .int .i64 h.lv, .int .i64 h.dO, .int .i64 h.ld, .int .i64 h.qu]) := by rw [hw2]; exact F0.out.alloc _
    have F1 : Hid (Blk w4 b2 [.int .i64 x.l.lo, .int .i64 x.l.hi, .int .i64 x.u.lo, .int .i64 x.u.hi]) := by rw [hw2]; exact F1.out.alloc _
    have FB : Hid (Below w.heap.size w w4) := by rw [hw2]; exact FB.out.alloc FB.out.size _
    have FC : Hid (Blk w4 b3 [.int .i64 (Hs.extK h x p q), .int .i64 0, .int .i64 0, .int .i64 0, .int .i64 0]) := by rw [hw2]; exact Blk.at_ w3 ([.int .i64 (Hs.extK h x p q), .int .i64 0, .int .i64 0, .int .i64 0, .int .i64 0] : List Value).toArray _ _ hbb
    rw [← hw2, ← hbb]
    clear hbb hw2
    have z0_ := FC.out.c 0 _ rfl
    go_upto_region 6 with fail
    clear z0_
    have F0 : Hid (Blk w4.drew b1 [.int .i64 h.fl, .int .i64 h.gp, .int .i64 h.ln, .int .i64 h.rf, .int .i64 h.sp, .int .i64 h.pu, .int .i64 h.br, .int .i64 h.dr, .int .i64 h.lv, .int .i64 h.dO, .int .i64 h.ld, .int .i64 h.qu]) := F0.out.below (Below.refl _ _).drew F0.out.lt
    have F1 : Hid (Blk w4.drew b2 [.int .i64 x.l.lo, .int .i64 x.l.hi, .int .i64 x.u.lo, .int .i64 x.u.hi]) := F1.out.below (Below.refl _ _).drew F1.out.lt
    have FC : Hid (Blk w4.drew b3 [.int .i64 (Hs.extK h x p q), .int .i64 0, .int .i64 0, .int .i64 0, .int .i64 0]) := FC.out.below (Below.refl _ _).drew FC.out.lt
    have FB : Hid (Below w.heap.size w w4.drew) := FB.out.drew
    refine wp_region_held_drew (S := (fun w'' => Blk w'' b1 ([.int .i64 h.fl, .int .i64 h.gp, .int .i64 h.ln, .int .i64 h.rf, .int .i64 h.sp, .int .i64 h.pu, .int .i64 h.br, .int .i64 h.dr, .int .i64 h.lv, .int .i64 h.dO, .int .i64 h.ld, .int .i64 h.qu]) ∧ Blk w'' b2 ([.int .i64 x.l.lo, .int .i64 x.l.hi, .int .i64 x.u.lo, .int .i64 x.u.hi]) ∧ Blk w'' b3 ([.int .i64 (Hs.extK h x p q), .int .i64 0, .int .i64 0, .int .i64 0, .int .i64 0]))) (by kernel_rfl) (by (try dsimp only); first | exact ⟨F0.out, F1.out, FC.out⟩ | go_keep) (fun hHeld => ?_)
    obtain ⟨v_1, hw1⟩ : ∃ v_1, v_1 = w4.drew := ⟨_, rfl⟩
    have F0 : Hid (Blk v_1 b1 [.int .i64 h.fl, .int .i64 h.gp, .int .i64 h.ln, .int .i64 h.rf, .int .i64 h.sp, .int .i64 h.pu, .int .i64 h.br, .int .i64 h.dr, .int .i64 h.lv, .int .i64 h.dO, .int .i64 h.ld, .int .i64 h.qu]) := by rw [hw1]; exact F0.out
    have F1 : Hid (Blk v_1 b2 [.int .i64 x.l.lo, .int .i64 x.l.hi, .int .i64 x.u.lo, .int .i64 x.u.hi]) := by rw [hw1]; exact F1.out
    have FC : Hid (Blk v_1 b3 [.int .i64 (Hs.extK h x p q), .int .i64 0, .int .i64 0, .int .i64 0, .int .i64 0]) := by rw [hw1]; exact FC.out
    have FB : Hid (Below w.heap.size w v_1) := by rw [hw1]; exact FB.out
    rw [← hw1] at hHeld ⊢
    clear hw1
    refine tkz 0 rfl ?_ (hy := Or.inl ⟨by kernel_rfl, fun wx hSw => exec_load_blk 25 _ Try.underlying25 (by kernel_rfl) rfl rfl hSw.1⟩)
    refine tkz 1 rfl ?_ (hy := Or.inl ⟨by kernel_rfl, fun wx hSw => exec_load_blk 29 _ Try.underlying29 (by kernel_rfl) rfl rfl hSw.2.1⟩)
    refine tkz 2 rfl ?_
    refine tkz 3 rfl ?_
    refine tkz 6 rfl ?_
    refine tkz 7 rfl ?_ (hy := Or.inl ⟨by kernel_rfl, by (intro wx hSw; have hq2_0 := hSw.2.2.c 0 _ rfl; (try dsimp only at hSw); go_simp <;> with_reducible rfl)⟩)
    refine wpAnyH_ready (rs := [4]) (by kernel_rfl) (by simp) ?_
    refine (AllReadyH.cons rfl (fun K hK => ?_) AllReadyH.nil)
    go_simp
    refine ((specExtendSpans_any h x p q _).mono (fun _ _ z => hv ▸ z)).mono ?_
    rintro e v_2 ⟨rfl, hb⟩
    have F0 : Hid (Blk v_2 b1 [.int .i64 h.fl, .int .i64 h.gp, .int .i64 h.ln, .int .i64 h.rf, .int .i64 h.sp, .int .i64 h.pu, .int .i64 h.br, .int .i64 h.dr, .int .i64 h.lv, .int .i64 h.dO, .int .i64 h.ld, .int .i64 h.qu]) := F0.out.below hb F0.out.lt
    have F1 : Hid (Blk v_2 b2 [.int .i64 x.l.lo, .int .i64 x.l.hi, .int .i64 x.u.lo, .int .i64 x.u.hi]) := F1.out.below hb F1.out.lt
    have FC : Hid (Blk v_2 b3 [.int .i64 (Hs.extK h x p q), .int .i64 0, .int .i64 0, .int .i64 0, .int .i64 0]) := FC.out.below hb FC.out.lt
    have FB : Hid (Below w.heap.size w v_2) := FB.out.trans (hb.mono FB.out.size)
    clear hb
    try dsimp only
    refine hK.out _ _ (by (try dsimp only); first | exact ⟨F0.out, F1.out, FC.out⟩ | go_keep) (fun hHeld => ?_)
    clear hK K
    try simp only [Act.put, List.getElem_toArray, List.getElem_cons_succ, List.getElem_cons_zero, List.setIfInBounds_toArray, List.set_cons_zero, List.set_cons_succ]
    refine tkz 5 rfl ?_
    refine tkz 8 rfl ?_
    refine tkz 9 rfl ?_
    refine wpAnyH_done (by kernel_rfl) ?_ _
    go_wp2_with fail
    go_ret
    exact ⟨by simp, FB.out⟩
  have hv : Hs.extV h x p q = extS x p q := if_pos k
  have hk := k
  unfold Hs.extK at hk
  have ks : Hs.spans h x = 0 := by
    by_cases z : Hs.spans h x = 0
    · exact z
    · rw [if_neg z] at hk; exact absurd hk z
  rw [if_pos ks] at hk
  have kr : inB p (-1) h.fl = true ∧ inB q (-1) h.fl = true := by
    by_cases z : inB p (-1) h.fl = true ∧ inB q (-1) h.fl = true
    · exact z
    · rw [if_neg z] at hk; omega
  rw [if_pos kr] at hk
  have kp : p < q := by
    by_cases z : p < q
    · exact z
    · rw [if_neg z] at hk; omega
  have p1 := (inB_iff.1 kr.1).1
  have q1 := (inB_iff.1 kr.2).2
  have so := spans_zero_iff.1 ks
  have so2 := extS_ok so p1 kp q1
  have k2 := spans_zero_iff.2 so2
  have s1 := so.a1; have s2 := so.a2; have s3 := so.a3; have s4 := so.a4; have s5 := so.a5
  have y1 : (extS x p q).l.lo ≤ x.l.lo := by unfold extS; dsimp only; omega
  have y2 : x.l.hi ≤ (extS x p q).l.hi := by unfold extS; dsimp only; omega
  have y3 : (extS x p q).u.lo ≤ x.u.lo := by unfold extS; dsimp only; omega
  have y4 : x.u.hi ≤ (extS x p q).u.hi := by unfold extS; dsimp only; omega
  have A1 : p < x.u.lo → aimS (extS x p q).l p = p := by intro c; unfold extS aimS; dsimp only; omega
  have A2 : (extS x p q).l.hi < q → aimS (extS x p q).u q = q := by unfold extS aimS; dsimp only; omega
  have z2 := so2.a2; have z3 := so2.a3; have z4 := so2.a4
  obtain ⟨a, b, hab⟩ : ∃ a b, extS x p q = ⟨a, b⟩ := ⟨_, _, rfl⟩
  rw [hab] at k2 y1 y2 y3 y4 A1 A2 z2 z3 z4 hv
  dsimp only at y1 y2 y3 y4 A1 A2 z2 z3 z4
  have HA1 : Hid (p < x.u.lo → aimS a p = p) := A1
  have HA2 : Hid (a.hi < q → aimS b q = q) := A2
  have i1 := aim_in (x := a) p z2
  have i2 := aim_in (x := b) q z4
  have T1 : decide (a.hi < b.lo) = true := decide_eq_true z3
  have T2 : decide (aimS a p < aimS b q) = true := decide_eq_true (by omega)
  have n1 : decide (x.l.lo < a.lo) = false := decide_eq_false (by omega)
  have n2 : decide (a.hi < x.l.hi) = false := decide_eq_false (by omega)
  have n3 : decide (x.u.lo < b.lo) = false := decide_eq_false (by omega)
  have n4 : decide (b.hi < x.u.hi) = false := decide_eq_false (by omega)
  clear A1 A2 hab so so2 hk kr kp ks p1 q1 s1 s2 s3 s4 s5 y1 y2 y3 y4 i1 i2 z3
  go_upto_region 5 with (first | (refine load_blk 25 _ Try.underlying25 (by kernel_rfl) F0.out rfl rfl rfl ?_) | (refine load_blk 29 _ Try.underlying29 (by kernel_rfl) F1.out rfl rfl rfl ?_) | (go_at_call 8; refine (implExtendSpans_any h x p q _).mono ?_; unfold isSps; rw [hv, k]; rintro e w3 ⟨rfl, hb⟩; have F0 : Hid (Blk w3 b1 [.int .i64 h.fl, .int .i64 h.gp, .int .i64 h.ln, .int .i64 h.rf, .int .i64 h.sp, .int .i64 h.pu, .int .i64 h.br, .int .i64 h.dr, .int .i64 h.lv, .int .i64 h.dO, .int .i64 h.ld, .int .i64 h.qu]) := F0.out.below hb F0.out.lt; have F1 : Hid (Blk w3 b2 [.int .i64 x.l.lo, .int .i64 x.l.hi, .int .i64 x.u.lo, .int .i64 x.u.hi]) := F1.out.below hb F1.out.lt; have FB : Hid (Below w.heap.size w w3) := FB.out.trans (hb.mono FB.out.size); clear hb) | (refine store_new [.int .i64 0, .int .i64 a.lo, .int .i64 a.hi, .int .i64 b.lo, .int .i64 b.hi] 33 _ _ (by kernel_rfl) (by kernel_rfl) (by kernel_rfl) rfl rfl rfl rfl ?_))
  obtain ⟨b3, hbb⟩ : ∃ b, b = w3.heap.size := ⟨_, rfl⟩
  obtain ⟨w4, hw2⟩ : ∃ W, W = w3.alloc (.cells ([.int .i64 0, .int .i64 a.lo, .int .i64 a.hi, .int .i64 b.lo, .int .i64 b.hi] : List Value).toArray 33) := ⟨_, rfl⟩
  have F0 : Hid (Blk w4 b1 [.int .i64 h.fl, .int .i64 h.gp, .int .i64 h.ln, .int .i64 h.rf, .int .i64 h.sp, .int .i64 h.pu, .int .i64 h.br, .int .i64 h.dr, .int .i64 h.lv, .int .i64 h.dO, .int .i64 h.ld, .int .i64 h.qu]) := by rw [hw2]; exact F0.out.alloc _
  have F1 : Hid (Blk w4 b2 [.int .i64 x.l.lo, .int .i64 x.l.hi, .int .i64 x.u.lo, .int .i64 x.u.hi]) := by rw [hw2]; exact F1.out.alloc _
  have FB : Hid (Below w.heap.size w w4) := by rw [hw2]; exact FB.out.alloc FB.out.size _
  have FC : Hid (Blk w4 b3 [.int .i64 0, .int .i64 a.lo, .int .i64 a.hi, .int .i64 b.lo, .int .i64 b.hi]) := by rw [hw2]; exact Blk.at_ w3 ([.int .i64 0, .int .i64 a.lo, .int .i64 a.hi, .int .i64 b.lo, .int .i64 b.hi] : List Value).toArray _ _ hbb
  rw [← hw2, ← hbb]
  clear hbb hw2
  clear k hv
  have c0 := FC.out.c 0 _ rfl
  have c1 := FC.out.c 1 _ rfl
  have c2 := FC.out.c 2 _ rfl
  have c3 := FC.out.c 3 _ rfl
  have c4 := FC.out.c 4 _ rfl
  go_upto_region 8 with (first | (refine store_new [.int .i64 a.lo, .int .i64 a.hi] 27 _ _ (by kernel_rfl) (by kernel_rfl) (by kernel_rfl) rfl rfl rfl rfl ?_))
  obtain ⟨b4, hbb⟩ : ∃ b, b = w4.heap.size := ⟨_, rfl⟩
  obtain ⟨w5, hw2⟩ : ∃ W, W = w4.alloc (.cells ([.int .i64 a.lo, .int .i64 a.hi] : List Value).toArray 27) := ⟨_, rfl⟩
  have F0 : Hid (Blk w5 b1 [.int .i64 h.fl, .int .i64 h.gp, .int .i64 h.ln, .int .i64 h.rf, .int .i64 h.sp, .int .i64 h.pu, .int .i64 h.br, .int .i64 h.dr, .int .i64 h.lv, .int .i64 h.dO, .int .i64 h.ld, .int .i64 h.qu]) := by rw [hw2]; exact F0.out.alloc _
  have F1 : Hid (Blk w5 b2 [.int .i64 x.l.lo, .int .i64 x.l.hi, .int .i64 x.u.lo, .int .i64 x.u.hi]) := by rw [hw2]; exact F1.out.alloc _
  have FC : Hid (Blk w5 b3 [.int .i64 0, .int .i64 a.lo, .int .i64 a.hi, .int .i64 b.lo, .int .i64 b.hi]) := by rw [hw2]; exact FC.out.alloc _
  have FB : Hid (Below w.heap.size w w5) := by rw [hw2]; exact FB.out.alloc FB.out.size _
  have FA : Hid (Blk w5 b4 [.int .i64 a.lo, .int .i64 a.hi]) := by rw [hw2]; exact Blk.at_ w4 ([.int .i64 a.lo, .int .i64 a.hi] : List Value).toArray _ _ hbb
  rw [← hw2, ← hbb]
  clear hbb hw2
  have c0 := FC.out.c 0 _ rfl
  have c1 := FC.out.c 1 _ rfl
  have c2 := FC.out.c 2 _ rfl
  have c3 := FC.out.c 3 _ rfl
  have c4 := FC.out.c 4 _ rfl
  go_upto_region 9 with (first | (refine store_new [.int .i64 b.lo, .int .i64 b.hi] 27 _ _ (by kernel_rfl) (by kernel_rfl) (by kernel_rfl) rfl rfl rfl rfl ?_))
  obtain ⟨b5, hbb⟩ : ∃ b, b = w5.heap.size := ⟨_, rfl⟩
  obtain ⟨w6, hw2⟩ : ∃ W, W = w5.alloc (.cells ([.int .i64 b.lo, .int .i64 b.hi] : List Value).toArray 27) := ⟨_, rfl⟩
  have F0 : Hid (Blk w6 b1 [.int .i64 h.fl, .int .i64 h.gp, .int .i64 h.ln, .int .i64 h.rf, .int .i64 h.sp, .int .i64 h.pu, .int .i64 h.br, .int .i64 h.dr, .int .i64 h.lv, .int .i64 h.dO, .int .i64 h.ld, .int .i64 h.qu]) := by rw [hw2]; exact F0.out.alloc _
  have F1 : Hid (Blk w6 b2 [.int .i64 x.l.lo, .int .i64 x.l.hi, .int .i64 x.u.lo, .int .i64 x.u.hi]) := by rw [hw2]; exact F1.out.alloc _
  have FC : Hid (Blk w6 b3 [.int .i64 0, .int .i64 a.lo, .int .i64 a.hi, .int .i64 b.lo, .int .i64 b.hi]) := by rw [hw2]; exact FC.out.alloc _
  have FA : Hid (Blk w6 b4 [.int .i64 a.lo, .int .i64 a.hi]) := by rw [hw2]; exact FA.out.alloc _
  have FB : Hid (Below w.heap.size w w6) := by rw [hw2]; exact FB.out.alloc FB.out.size _
  have FD : Hid (Blk w6 b5 [.int .i64 b.lo, .int .i64 b.hi]) := by rw [hw2]; exact Blk.at_ w5 ([.int .i64 b.lo, .int .i64 b.hi] : List Value).toArray _ _ hbb
  rw [← hw2, ← hbb]
  clear hbb hw2
  have c0 := FC.out.c 0 _ rfl
  have c1 := FC.out.c 1 _ rfl
  have c2 := FC.out.c 2 _ rfl
  have c3 := FC.out.c 3 _ rfl
  have c4 := FC.out.c 4 _ rfl
  have d0 := F1.out.c 0 _ rfl
  have d1 := F1.out.c 1 _ rfl
  have d2 := F1.out.c 2 _ rfl
  have d3 := F1.out.c 3 _ rfl
  have e0 := FA.out.c 0 _ rfl
  have e1 := FA.out.c 1 _ rfl
  have g0 := FD.out.c 0 _ rfl
  have g1 := FD.out.c 1 _ rfl
  go_upto_region 11 with (first | (refine load_blk 25 _ Try.underlying25 (by kernel_rfl) F0.out rfl rfl rfl ?_) | (go_at_call 10; refine (implSpansFault_any h ⟨a, b⟩ _).mono ?_; rw [k2]; rintro e w7 ⟨rfl, hb⟩; have F0 : Hid (Blk w7 b1 [.int .i64 h.fl, .int .i64 h.gp, .int .i64 h.ln, .int .i64 h.rf, .int .i64 h.sp, .int .i64 h.pu, .int .i64 h.br, .int .i64 h.dr, .int .i64 h.lv, .int .i64 h.dO, .int .i64 h.ld, .int .i64 h.qu]) := F0.out.below hb F0.out.lt; have F1 : Hid (Blk w7 b2 [.int .i64 x.l.lo, .int .i64 x.l.hi, .int .i64 x.u.lo, .int .i64 x.u.hi]) := F1.out.below hb F1.out.lt; have FC : Hid (Blk w7 b3 [.int .i64 0, .int .i64 a.lo, .int .i64 a.hi, .int .i64 b.lo, .int .i64 b.hi]) := FC.out.below hb FC.out.lt; have FA : Hid (Blk w7 b4 [.int .i64 a.lo, .int .i64 a.hi]) := FA.out.below hb FA.out.lt; have FD : Hid (Blk w7 b5 [.int .i64 b.lo, .int .i64 b.hi]) := FD.out.below hb FD.out.lt; have FB : Hid (Below w.heap.size w w7) := FB.out.trans (hb.mono FB.out.size); clear hb; have c0 := FC.out.c 0 _ rfl; have c1 := FC.out.c 1 _ rfl; have c2 := FC.out.c 2 _ rfl; have c3 := FC.out.c 3 _ rfl; have c4 := FC.out.c 4 _ rfl; have d0 := F1.out.c 0 _ rfl; have d1 := F1.out.c 1 _ rfl; have d2 := F1.out.c 2 _ rfl; have d3 := F1.out.c 3 _ rfl; have e0 := FA.out.c 0 _ rfl; have e1 := FA.out.c 1 _ rfl; have g0 := FD.out.c 0 _ rfl; have g1 := FD.out.c 1 _ rfl))
  clear n1 n2 n3 n4 k2
  go_cut [110] (fun t wx => t = .bool false ∧ Blk wx b1 [.int .i64 h.fl, .int .i64 h.gp, .int .i64 h.ln, .int .i64 h.rf, .int .i64 h.sp, .int .i64 h.pu, .int .i64 h.br, .int .i64 h.dr, .int .i64 h.lv, .int .i64 h.dO, .int .i64 h.ld, .int .i64 h.qu] ∧ Blk wx b2 [.int .i64 x.l.lo, .int .i64 x.l.hi, .int .i64 x.u.lo, .int .i64 x.u.hi] ∧ Blk wx b3 [.int .i64 0, .int .i64 a.lo, .int .i64 a.hi, .int .i64 b.lo, .int .i64 b.hi] ∧ Blk wx b4 [.int .i64 a.lo, .int .i64 a.hi] ∧ Blk wx b5 [.int .i64 b.lo, .int .i64 b.hi] ∧ Below w.heap.size w wx)
  case first =>
    by_cases C1 : p < x.u.lo
    · by_cases C2 : x.l.hi < q
      · by_cases C3 : a.hi < q
        · have t1 : decide (p < x.u.lo) = true := decide_eq_true C1
          have r1 : (aimS a p != p) = false := by rw [HA1.out C1]; simp
          have t2 : decide (x.l.hi < q) = true := decide_eq_true C2
          have t3 : decide (a.hi < q) = true := decide_eq_true C3
          have r2 : (aimS b q != q) = false := by rw [HA2.out C3]; simp
          clear HA1 HA2 C1 C2 C3
          go_wp2_with (first | (refine load_blkh 27 _ Try.underlying27 (by kernel_rfl) FA.out (by kernel_rfl) rfl rfl ?_) | (refine load_blkh 27 _ Try.underlying27 (by kernel_rfl) FD.out (by kernel_rfl) rfl rfl ?_) | (go_at_call 11; refine (implAimOf_any _ _ (by assumption) _).mono ?_; rintro e w8 ⟨rfl, hb⟩; have F0 : Hid (Blk w8 b1 [.int .i64 h.fl, .int .i64 h.gp, .int .i64 h.ln, .int .i64 h.rf, .int .i64 h.sp, .int .i64 h.pu, .int .i64 h.br, .int .i64 h.dr, .int .i64 h.lv, .int .i64 h.dO, .int .i64 h.ld, .int .i64 h.qu]) := F0.out.below hb F0.out.lt; have F1 : Hid (Blk w8 b2 [.int .i64 x.l.lo, .int .i64 x.l.hi, .int .i64 x.u.lo, .int .i64 x.u.hi]) := F1.out.below hb F1.out.lt; have FC : Hid (Blk w8 b3 [.int .i64 0, .int .i64 a.lo, .int .i64 a.hi, .int .i64 b.lo, .int .i64 b.hi]) := FC.out.below hb FC.out.lt; have FA : Hid (Blk w8 b4 [.int .i64 a.lo, .int .i64 a.hi]) := FA.out.below hb FA.out.lt; have FD : Hid (Blk w8 b5 [.int .i64 b.lo, .int .i64 b.hi]) := FD.out.below hb FD.out.lt; have FB : Hid (Below w.heap.size w w8) := FB.out.trans (hb.mono FB.out.size); clear hb; have c0 := FC.out.c 0 _ rfl; have c1 := FC.out.c 1 _ rfl; have c2 := FC.out.c 2 _ rfl; have c3 := FC.out.c 3 _ rfl; have c4 := FC.out.c 4 _ rfl; have d0 := F1.out.c 0 _ rfl; have d1 := F1.out.c 1 _ rfl; have d2 := F1.out.c 2 _ rfl; have d3 := F1.out.c 3 _ rfl; have e0 := FA.out.c 0 _ rfl; have e1 := FA.out.c 1 _ rfl; have g0 := FD.out.c 0 _ rfl; have g1 := FD.out.c 1 _ rfl))
          go_meet
          case rel => exact ⟨rfl, F0.out, F1.out, FC.out, FA.out, FD.out, FB.out⟩
        · have t1 : decide (p < x.u.lo) = true := decide_eq_true C1
          have r1 : (aimS a p != p) = false := by rw [HA1.out C1]; simp
          have t2 : decide (x.l.hi < q) = true := decide_eq_true C2
          have t3 : decide (a.hi < q) = false := decide_eq_false C3
          clear HA1 HA2 C1 C2 C3
          go_wp2_with (first | (refine load_blkh 27 _ Try.underlying27 (by kernel_rfl) FA.out (by kernel_rfl) rfl rfl ?_) | (go_at_call 11; refine (implAimOf_any _ _ (by assumption) _).mono ?_; rintro e w8 ⟨rfl, hb⟩; have F0 : Hid (Blk w8 b1 [.int .i64 h.fl, .int .i64 h.gp, .int .i64 h.ln, .int .i64 h.rf, .int .i64 h.sp, .int .i64 h.pu, .int .i64 h.br, .int .i64 h.dr, .int .i64 h.lv, .int .i64 h.dO, .int .i64 h.ld, .int .i64 h.qu]) := F0.out.below hb F0.out.lt; have F1 : Hid (Blk w8 b2 [.int .i64 x.l.lo, .int .i64 x.l.hi, .int .i64 x.u.lo, .int .i64 x.u.hi]) := F1.out.below hb F1.out.lt; have FC : Hid (Blk w8 b3 [.int .i64 0, .int .i64 a.lo, .int .i64 a.hi, .int .i64 b.lo, .int .i64 b.hi]) := FC.out.below hb FC.out.lt; have FA : Hid (Blk w8 b4 [.int .i64 a.lo, .int .i64 a.hi]) := FA.out.below hb FA.out.lt; have FD : Hid (Blk w8 b5 [.int .i64 b.lo, .int .i64 b.hi]) := FD.out.below hb FD.out.lt; have FB : Hid (Below w.heap.size w w8) := FB.out.trans (hb.mono FB.out.size); clear hb; have c0 := FC.out.c 0 _ rfl; have c1 := FC.out.c 1 _ rfl; have c2 := FC.out.c 2 _ rfl; have c3 := FC.out.c 3 _ rfl; have c4 := FC.out.c 4 _ rfl; have d0 := F1.out.c 0 _ rfl; have d1 := F1.out.c 1 _ rfl; have d2 := F1.out.c 2 _ rfl; have d3 := F1.out.c 3 _ rfl; have e0 := FA.out.c 0 _ rfl; have e1 := FA.out.c 1 _ rfl; have g0 := FD.out.c 0 _ rfl; have g1 := FD.out.c 1 _ rfl))
          go_meet
          case rel => exact ⟨rfl, F0.out, F1.out, FC.out, FA.out, FD.out, FB.out⟩
      · have t1 : decide (p < x.u.lo) = true := decide_eq_true C1
        have r1 : (aimS a p != p) = false := by rw [HA1.out C1]; simp
        have t2 : decide (x.l.hi < q) = false := decide_eq_false C2
        clear HA1 HA2 C1 C2
        go_wp2_with (first | (refine load_blkh 27 _ Try.underlying27 (by kernel_rfl) FA.out (by kernel_rfl) rfl rfl ?_) | (go_at_call 11; refine (implAimOf_any _ _ (by assumption) _).mono ?_; rintro e w8 ⟨rfl, hb⟩; have F0 : Hid (Blk w8 b1 [.int .i64 h.fl, .int .i64 h.gp, .int .i64 h.ln, .int .i64 h.rf, .int .i64 h.sp, .int .i64 h.pu, .int .i64 h.br, .int .i64 h.dr, .int .i64 h.lv, .int .i64 h.dO, .int .i64 h.ld, .int .i64 h.qu]) := F0.out.below hb F0.out.lt; have F1 : Hid (Blk w8 b2 [.int .i64 x.l.lo, .int .i64 x.l.hi, .int .i64 x.u.lo, .int .i64 x.u.hi]) := F1.out.below hb F1.out.lt; have FC : Hid (Blk w8 b3 [.int .i64 0, .int .i64 a.lo, .int .i64 a.hi, .int .i64 b.lo, .int .i64 b.hi]) := FC.out.below hb FC.out.lt; have FA : Hid (Blk w8 b4 [.int .i64 a.lo, .int .i64 a.hi]) := FA.out.below hb FA.out.lt; have FD : Hid (Blk w8 b5 [.int .i64 b.lo, .int .i64 b.hi]) := FD.out.below hb FD.out.lt; have FB : Hid (Below w.heap.size w w8) := FB.out.trans (hb.mono FB.out.size); clear hb; have c0 := FC.out.c 0 _ rfl; have c1 := FC.out.c 1 _ rfl; have c2 := FC.out.c 2 _ rfl; have c3 := FC.out.c 3 _ rfl; have c4 := FC.out.c 4 _ rfl; have d0 := F1.out.c 0 _ rfl; have d1 := F1.out.c 1 _ rfl; have d2 := F1.out.c 2 _ rfl; have d3 := F1.out.c 3 _ rfl; have e0 := FA.out.c 0 _ rfl; have e1 := FA.out.c 1 _ rfl; have g0 := FD.out.c 0 _ rfl; have g1 := FD.out.c 1 _ rfl))
        go_meet
        case rel => exact ⟨rfl, F0.out, F1.out, FC.out, FA.out, FD.out, FB.out⟩
    · by_cases C2 : x.l.hi < q
      · by_cases C3 : a.hi < q
        · have t1 : decide (p < x.u.lo) = false := decide_eq_false C1
          have t2 : decide (x.l.hi < q) = true := decide_eq_true C2
          have t3 : decide (a.hi < q) = true := decide_eq_true C3
          have r2 : (aimS b q != q) = false := by rw [HA2.out C3]; simp
          clear HA1 HA2 C1 C2 C3
          go_wp2_with (first | (refine load_blkh 27 _ Try.underlying27 (by kernel_rfl) FD.out (by kernel_rfl) rfl rfl ?_) | (go_at_call 11; refine (implAimOf_any _ _ (by assumption) _).mono ?_; rintro e w8 ⟨rfl, hb⟩; have F0 : Hid (Blk w8 b1 [.int .i64 h.fl, .int .i64 h.gp, .int .i64 h.ln, .int .i64 h.rf, .int .i64 h.sp, .int .i64 h.pu, .int .i64 h.br, .int .i64 h.dr, .int .i64 h.lv, .int .i64 h.dO, .int .i64 h.ld, .int .i64 h.qu]) := F0.out.below hb F0.out.lt; have F1 : Hid (Blk w8 b2 [.int .i64 x.l.lo, .int .i64 x.l.hi, .int .i64 x.u.lo, .int .i64 x.u.hi]) := F1.out.below hb F1.out.lt; have FC : Hid (Blk w8 b3 [.int .i64 0, .int .i64 a.lo, .int .i64 a.hi, .int .i64 b.lo, .int .i64 b.hi]) := FC.out.below hb FC.out.lt; have FA : Hid (Blk w8 b4 [.int .i64 a.lo, .int .i64 a.hi]) := FA.out.below hb FA.out.lt; have FD : Hid (Blk w8 b5 [.int .i64 b.lo, .int .i64 b.hi]) := FD.out.below hb FD.out.lt; have FB : Hid (Below w.heap.size w w8) := FB.out.trans (hb.mono FB.out.size); clear hb; have c0 := FC.out.c 0 _ rfl; have c1 := FC.out.c 1 _ rfl; have c2 := FC.out.c 2 _ rfl; have c3 := FC.out.c 3 _ rfl; have c4 := FC.out.c 4 _ rfl; have d0 := F1.out.c 0 _ rfl; have d1 := F1.out.c 1 _ rfl; have d2 := F1.out.c 2 _ rfl; have d3 := F1.out.c 3 _ rfl; have e0 := FA.out.c 0 _ rfl; have e1 := FA.out.c 1 _ rfl; have g0 := FD.out.c 0 _ rfl; have g1 := FD.out.c 1 _ rfl))
          go_meet
          case rel => exact ⟨rfl, F0.out, F1.out, FC.out, FA.out, FD.out, FB.out⟩
        · have t1 : decide (p < x.u.lo) = false := decide_eq_false C1
          have t2 : decide (x.l.hi < q) = true := decide_eq_true C2
          have t3 : decide (a.hi < q) = false := decide_eq_false C3
          clear HA1 HA2 C1 C2 C3
          go_wp2_with fail
          go_meet
          case rel => exact ⟨rfl, F0.out, F1.out, FC.out, FA.out, FD.out, FB.out⟩
      · have t1 : decide (p < x.u.lo) = false := decide_eq_false C1
        have t2 : decide (x.l.hi < q) = false := decide_eq_false C2
        clear HA1 HA2 C1 C2
        go_wp2_with fail
        go_meet
        case rel => exact ⟨rfl, F0.out, F1.out, FC.out, FA.out, FD.out, FB.out⟩
  case rest =>
    obtain ⟨rfl, hF0, hF1, hFC, hFA, hFD, hFB⟩ := hcut
    clear c0 c1 c2 c3 c4 d0 d1 d2 d3 e0 e1 g0 g1
    have F0 : Hid (Blk wc b1 [.int .i64 h.fl, .int .i64 h.gp, .int .i64 h.ln, .int .i64 h.rf, .int .i64 h.sp, .int .i64 h.pu, .int .i64 h.br, .int .i64 h.dr, .int .i64 h.lv, .int .i64 h.dO, .int .i64 h.ld, .int .i64 h.qu]) := hF0
    have F1 : Hid (Blk wc b2 [.int .i64 x.l.lo, .int .i64 x.l.hi, .int .i64 x.u.lo, .int .i64 x.u.hi]) := hF1
    have FC : Hid (Blk wc b3 [.int .i64 0, .int .i64 a.lo, .int .i64 a.hi, .int .i64 b.lo, .int .i64 b.hi]) := hFC
    have FA : Hid (Blk wc b4 [.int .i64 a.lo, .int .i64 a.hi]) := hFA
    have FD : Hid (Blk wc b5 [.int .i64 b.lo, .int .i64 b.hi]) := hFD
    have FB : Hid (Below w.heap.size w wc) := hFB
    clear hF0 hF1 hFC hFA hFD hFB
    go_upto_region 13 with fail
    have F0 : Hid (Blk wc.drew b1 [.int .i64 h.fl, .int .i64 h.gp, .int .i64 h.ln, .int .i64 h.rf, .int .i64 h.sp, .int .i64 h.pu, .int .i64 h.br, .int .i64 h.dr, .int .i64 h.lv, .int .i64 h.dO, .int .i64 h.ld, .int .i64 h.qu]) := F0.out.below (Below.refl _ _).drew F0.out.lt
    have F1 : Hid (Blk wc.drew b2 [.int .i64 x.l.lo, .int .i64 x.l.hi, .int .i64 x.u.lo, .int .i64 x.u.hi]) := F1.out.below (Below.refl _ _).drew F1.out.lt
    have FC : Hid (Blk wc.drew b3 [.int .i64 0, .int .i64 a.lo, .int .i64 a.hi, .int .i64 b.lo, .int .i64 b.hi]) := FC.out.below (Below.refl _ _).drew FC.out.lt
    have FA : Hid (Blk wc.drew b4 [.int .i64 a.lo, .int .i64 a.hi]) := FA.out.below (Below.refl _ _).drew FA.out.lt
    have FD : Hid (Blk wc.drew b5 [.int .i64 b.lo, .int .i64 b.hi]) := FD.out.below (Below.refl _ _).drew FD.out.lt
    have FB : Hid (Below w.heap.size w wc.drew) := FB.out.drew
    refine wp_region_held_drew (S := (fun w'' => Blk w'' b4 ([.int .i64 a.lo, .int .i64 a.hi]) ∧ Blk w'' b5 ([.int .i64 b.lo, .int .i64 b.hi]))) (by kernel_rfl) (by (try dsimp only); first | exact ⟨FA.out, FD.out⟩ | go_keep) (fun hHeld => ?_)
    obtain ⟨v_3, hw1⟩ : ∃ v_3, v_3 = wc.drew := ⟨_, rfl⟩
    have F0 : Hid (Blk v_3 b1 [.int .i64 h.fl, .int .i64 h.gp, .int .i64 h.ln, .int .i64 h.rf, .int .i64 h.sp, .int .i64 h.pu, .int .i64 h.br, .int .i64 h.dr, .int .i64 h.lv, .int .i64 h.dO, .int .i64 h.ld, .int .i64 h.qu]) := by rw [hw1]; exact F0.out
    have F1 : Hid (Blk v_3 b2 [.int .i64 x.l.lo, .int .i64 x.l.hi, .int .i64 x.u.lo, .int .i64 x.u.hi]) := by rw [hw1]; exact F1.out
    have FC : Hid (Blk v_3 b3 [.int .i64 0, .int .i64 a.lo, .int .i64 a.hi, .int .i64 b.lo, .int .i64 b.hi]) := by rw [hw1]; exact FC.out
    have FA : Hid (Blk v_3 b4 [.int .i64 a.lo, .int .i64 a.hi]) := by rw [hw1]; exact FA.out
    have FD : Hid (Blk v_3 b5 [.int .i64 b.lo, .int .i64 b.hi]) := by rw [hw1]; exact FD.out
    have FB : Hid (Below w.heap.size w v_3) := by rw [hw1]; exact FB.out
    rw [← hw1] at hHeld ⊢
    clear hw1
    refine tkz 0 rfl ?_
    refine tkz 1 rfl ?_ (hy := Or.inl ⟨by kernel_rfl, by (intro wx hSw; have hq1_0 := hSw.2.c 0 _ rfl; (try dsimp only at hSw); go_simp <;> with_reducible rfl)⟩)
    refine tkz 2 rfl ?_
    refine tkz 3 rfl ?_ (hy := Or.inl ⟨by kernel_rfl, by (intro wx hSw; have hq0_1 := hSw.1.c 1 _ rfl; (try dsimp only at hSw); go_simp <;> with_reducible rfl)⟩)
    refine tkz 4 rfl ?_
    refine tkz 5 rfl ?_
    refine tkz 6 rfl ?_ (hy := Or.inl ⟨by kernel_rfl, fun wx hSw => exec_load_blk 27 _ Try.underlying27 (by kernel_rfl) rfl rfl hSw.2⟩)
    refine tkz 7 rfl ?_
    refine tkz 9 rfl ?_ (hy := Or.inl ⟨by kernel_rfl, fun wx hSw => exec_load_blk 27 _ Try.underlying27 (by kernel_rfl) rfl rfl hSw.1⟩)
    refine tkz 10 rfl ?_
    refine wpAnyH_ready (rs := [8]) (by kernel_rfl) (by simp) ?_
    refine (AllReadyH.cons rfl (fun K hK => ?_) AllReadyH.nil)
    go_simp
    refine (implAimOf_any b q (by assumption) _).mono ?_
    rintro e v_4 ⟨rfl, hb⟩
    have F0 : Hid (Blk v_4 b1 [.int .i64 h.fl, .int .i64 h.gp, .int .i64 h.ln, .int .i64 h.rf, .int .i64 h.sp, .int .i64 h.pu, .int .i64 h.br, .int .i64 h.dr, .int .i64 h.lv, .int .i64 h.dO, .int .i64 h.ld, .int .i64 h.qu]) := F0.out.below hb F0.out.lt
    have F1 : Hid (Blk v_4 b2 [.int .i64 x.l.lo, .int .i64 x.l.hi, .int .i64 x.u.lo, .int .i64 x.u.hi]) := F1.out.below hb F1.out.lt
    have FC : Hid (Blk v_4 b3 [.int .i64 0, .int .i64 a.lo, .int .i64 a.hi, .int .i64 b.lo, .int .i64 b.hi]) := FC.out.below hb FC.out.lt
    have FA : Hid (Blk v_4 b4 [.int .i64 a.lo, .int .i64 a.hi]) := FA.out.below hb FA.out.lt
    have FD : Hid (Blk v_4 b5 [.int .i64 b.lo, .int .i64 b.hi]) := FD.out.below hb FD.out.lt
    have FB : Hid (Below w.heap.size w v_4) := FB.out.trans (hb.mono FB.out.size)
    clear hb
    try dsimp only
    refine hK.out _ _ (by (try dsimp only); first | exact ⟨FA.out, FD.out⟩ | go_keep) (fun hHeld => ?_)
    clear hK K
    try simp only [Act.put, List.getElem_toArray, List.getElem_cons_succ, List.getElem_cons_zero, List.setIfInBounds_toArray, List.set_cons_zero, List.set_cons_succ]
    refine wpAnyH_ready (rs := [11]) (by kernel_rfl) (by simp) ?_
    refine (AllReadyH.cons rfl (fun K hK => ?_) AllReadyH.nil)
    go_simp
    refine (implAimOf_any a p (by assumption) _).mono ?_
    rintro e v_5 ⟨rfl, hb⟩
    have F0 : Hid (Blk v_5 b1 [.int .i64 h.fl, .int .i64 h.gp, .int .i64 h.ln, .int .i64 h.rf, .int .i64 h.sp, .int .i64 h.pu, .int .i64 h.br, .int .i64 h.dr, .int .i64 h.lv, .int .i64 h.dO, .int .i64 h.ld, .int .i64 h.qu]) := F0.out.below hb F0.out.lt
    have F1 : Hid (Blk v_5 b2 [.int .i64 x.l.lo, .int .i64 x.l.hi, .int .i64 x.u.lo, .int .i64 x.u.hi]) := F1.out.below hb F1.out.lt
    have FC : Hid (Blk v_5 b3 [.int .i64 0, .int .i64 a.lo, .int .i64 a.hi, .int .i64 b.lo, .int .i64 b.hi]) := FC.out.below hb FC.out.lt
    have FA : Hid (Blk v_5 b4 [.int .i64 a.lo, .int .i64 a.hi]) := FA.out.below hb FA.out.lt
    have FD : Hid (Blk v_5 b5 [.int .i64 b.lo, .int .i64 b.hi]) := FD.out.below hb FD.out.lt
    have FB : Hid (Below w.heap.size w v_5) := FB.out.trans (hb.mono FB.out.size)
    clear hb
    try dsimp only
    refine hK.out _ _ (by (try dsimp only); first | exact ⟨FA.out, FD.out⟩ | go_keep) (fun hHeld => ?_)
    clear hK K
    try simp only [Act.put, List.getElem_toArray, List.getElem_cons_succ, List.getElem_cons_zero, List.setIfInBounds_toArray, List.set_cons_zero, List.set_cons_succ]
    refine tkz 12 rfl ?_
    refine tkz 13 rfl ?_
    refine tkz 14 rfl ?_
    refine wpAnyH_done (by kernel_rfl) ?_ _
    go_wp2_with fail
    go_ret
    exact ⟨by simp, FB.out⟩
end Go.Proofs.Ytpfihpplpefikaa
