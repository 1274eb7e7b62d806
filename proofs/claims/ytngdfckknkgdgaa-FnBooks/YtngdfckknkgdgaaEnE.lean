/-
  Books: a step, as the program keeps them.
-/
import Derived.Test.YtngdfckknkgdgaaEnD
import Derived.Test.YtngdfckknkgdgaaCarN
import Derived.Test.YtngdfckknkgdgaaCarS
import Derived.Deep.DeepCutAuto
import Derived.Laws.EntriesVeiled
namespace Go.Proofs.Ytngdfckknkgdgaa
open Go.RowKit Pl
set_option linter.unusedSimpArgs false
set_option linter.unusedVariables false

theorem leaves_void {P : Program} {fn : Func} {R : Ending → World → Prop} (hr : ∀ t t', results fn t = results fn t') {t t' : Array Value} : ∀ (ds : List Deferred) (u : FrameMode) (w : World), Leaves P fn t R ds u w → Leaves P fn t' R ds u w
  | [], .returning, _, h => by
    obtain ⟨v, h1, h2⟩ := h
    exact ⟨v, by rw [hr t' t]; exact h1, h2⟩
  | [], .panicking _, _, h => h
  | [], .run, _, h => h.elim
  | d :: ds, u, w, h => by
    obtain ⟨h1, fv, cap, f, args, h2, h3, h4⟩ := h
    refine ⟨h1, fv, cap, f, args, h2, h3, h4.mono ?_⟩
    intro e u' w' q
    cases e with
    | returned v => exact leaves_void hr ds _ _ q
    | panicked c => exact leaves_void hr ds _ _ q
    | outgrown => exact q
theorem step_void (t t' : Array Value) : results Try.f49 t = results Try.f49 t' := by
  simp [results, Try.results49]
set_option maxRecDepth 20000 in
set_option maxHeartbeats 32000000 in
theorem bkStep_braked (h : Hs) (c : Cs) (x : Cm) (d r : Int) (k : CarOk h c) (x1 : -h.pu ≤ x.push) (x2 : x.push ≤ h.pu) (d1 : -h.dr ≤ d) (d2 : d ≤ h.dr) (r1 : 0 ≤ r) (r2 : r ≤ h.ld) (hx : (x.brk || x.opn) = true) (s : Bk) (i1 : 0 ≤ s.i) (i2 : s.i ≤ 4000000000000000) (o1 : 0 ≤ s.l) (o2 : s.l ≤ 4000000000000000) (g : Cs) (hg : stepC h c x d = g) (ec : Int) (hec : enE h c r = ec) (pb : Nat) (w : World) (h_FP : Blk w pb [.int .i64 h.fl, .int .i64 h.gp, .int .i64 h.ln, .int .i64 h.rf, .int .i64 h.sp, .int .i64 h.pu, .int .i64 h.br, .int .i64 h.dr, .int .i64 h.lv, .int .i64 h.dO, .int .i64 h.ld, .int .i64 h.qu, .int .i64 (massN r), .int .i64 0, .int .i64 s.i, .int .i64 s.o, .int .i64 s.l, .int .i64 c.pos, .int .i64 c.vel, .int .i64 c.door]) :
    Calls Try.prog 49 #[.pointer (some ⟨pb, 0, none⟩), .agg #[.int .i64 x.push, .bool x.brk, .bool x.opn], .int .i64 d] w fun e w' => e = .returned (.tuple #[]) ∧ Blk w' pb [.int .i64 h.fl, .int .i64 h.gp, .int .i64 h.ln, .int .i64 h.rf, .int .i64 h.sp, .int .i64 h.pu, .int .i64 h.br, .int .i64 h.dr, .int .i64 h.lv, .int .i64 h.dO, .int .i64 h.ld, .int .i64 h.qu, .int .i64 (massN r), .int .i64 0, .int .i64 (s.i + max (enE h g r - ec) 0), .int .i64 s.o, .int .i64 (s.l + max (-(enE h g r - ec)) 0), .int .i64 g.pos, .int .i64 g.vel, .int .i64 g.door] ∧ Below pb w w' := by
  have hmf : ∀ (fn : Fn) (first cap : Array Value) (w : World), (Instr.makeFunc fn first cap).run Try.prog w = .ok (.func fn first cap) w := fun _ _ _ _ => rfl
  have r3 : r ≤ 20 := by have := k.ok.ld2; omega
  have HO : Hid h.Ok := k.ok
  have HN : Hid (Nr h c) := nr_of k
  have HM : Hid (Nr h g) := by have q := (step_near (x := x) (d := d) k).1; rw [hg] at q; exact q
  have eb : -500000000000 ≤ ec ∧ ec ≤ 500000000000 := by have q := (nr_of k).en k.ok r1 r3; rw [hec] at q; exact q
  have CE : ∀ W, Blk W pb [.int .i64 h.fl, .int .i64 h.gp, .int .i64 h.ln, .int .i64 h.rf, .int .i64 h.sp, .int .i64 h.pu, .int .i64 h.br, .int .i64 h.dr, .int .i64 h.lv, .int .i64 h.dO, .int .i64 h.ld, .int .i64 h.qu, .int .i64 (massN r), .int .i64 0, .int .i64 s.i, .int .i64 s.o, .int .i64 s.l, .int .i64 c.pos, .int .i64 c.vel, .int .i64 c.door] → Calls Try.prog 68 #[.pointer (some ⟨pb, 0, none⟩)] W fun e w' => e = .returned (.int .i64 ec) ∧ Below W.heap.size W w' := fun W hW => by have q := bkEnergy_any h HO.out c r HN.out r1 r3 s pb W hW; rw [hec] at q; exact q
  have CF : ∀ W, Calls Try.prog 69 #[.pointer (some ⟨pb, 0, none⟩), .agg #[.int .i64 x.push, .bool x.brk, .bool x.opn]] W fun e w' => e = .returned (.func (.func 93) #[.pointer (some ⟨pb, 0, none⟩)] #[]) ∧ Below W.heap.size W w' := fun W => by
    have q := entryFor_any x pb W
    have e : entF x = 93 := by unfold entF; rw [hx]; rfl
    rw [e] at q
    exact q
  have CB : ∀ W, Calls Try.prog 71 #[.agg #[.int .i64 h.fl, .int .i64 h.gp, .int .i64 h.ln, .int .i64 h.rf, .int .i64 h.sp, .int .i64 h.pu, .int .i64 h.br, .int .i64 h.dr, .int .i64 h.lv, .int .i64 h.dO, .int .i64 h.ld, .int .i64 h.qu], .agg #[.int .i64 c.pos, .int .i64 c.vel, .int .i64 c.door], .agg #[.int .i64 x.push, .bool x.brk, .bool x.opn], .int .i64 d] W fun e w' => e = .returned (.agg #[.int .i64 g.pos, .int .i64 g.vel, .int .i64 g.door]) ∧ Below W.heap.size W w' := fun W => carBehind_any h c x d k x1 x2 d1 d2 g hg W
  clear k x1 x2 d1 d2 hx hg hec
  have lt0 := h_FP.lt
  have ltpb := h_FP.lt
  obtain ⟨b3, hb3⟩ : ∃ b3, b3 = w.heap.size := ⟨_, rfl⟩
  obtain ⟨b4, hb4⟩ : ∃ b4, b4 = b3 + 1 := ⟨_, rfl⟩
  obtain ⟨W0, hW0⟩ : ∃ W0, W0 = (w.alloc (.cells #[.pointer (some ⟨pb, 0, none⟩)] 80)).alloc (.cells #[.int .i64 x.push, .bool x.brk, .bool x.opn] 42) := ⟨_, rfl⟩
  have F3 : Hid (Blk W0 b3 [.pointer (some ⟨pb, 0, none⟩)]) := by rw [hW0]; exact ((Blk.at_ _ #[.pointer (some ⟨pb, 0, none⟩)] _ _ hb3).alloc _)
  have F4 : Hid (Blk W0 b4 [.int .i64 x.push, .bool x.brk, .bool x.opn]) := by rw [hW0]; exact (Blk.at_ _ #[.int .i64 x.push, .bool x.brk, .bool x.opn] _ _ (by simp; omega))
  have FP : Hid (Blk W0 pb [.int .i64 h.fl, .int .i64 h.gp, .int .i64 h.ln, .int .i64 h.rf, .int .i64 h.sp, .int .i64 h.pu, .int .i64 h.br, .int .i64 h.dr, .int .i64 h.lv, .int .i64 h.dO, .int .i64 h.ld, .int .i64 h.qu, .int .i64 (massN r), .int .i64 0, .int .i64 s.i, .int .i64 s.o, .int .i64 s.l, .int .i64 c.pos, .int .i64 c.vel, .int .i64 c.door]) := by rw [hW0]; exact ((h_FP.alloc _).alloc _)
  clear h_FP
  have FB : Hid (Below pb w W0) := by rw [hW0]; exact ((((Below.refl _ _).alloc (Nat.le_refl _) _).alloc (by simp) _)).mono (Nat.le_of_lt lt0)
  have leb3 : w.heap.size ≤ b3 := by omega
  have leb4 : w.heap.size ≤ b4 := by omega
  have l01 : b3 < b4 := by omega
  go_enter_defers Try.func49, Try.ntmps49
  go_upto_region 1 with fail
  rw [← hb3, ← hb4, ← hW0]
  clear hb3 hb4 hW0
  have n3 : pb < b3 := by omega
  have n4 : pb < b4 := by omega
  go_cut [6, 7] from 8 to 29 (fun p q wx => ∃ b6 b7, p = .pointer (some ⟨b6, 0, none⟩) ∧ q = .pointer (some ⟨b7, 0, none⟩) ∧ pb < b6 ∧ pb < b7 ∧ Blk wx b6 [.int .i64 ec] ∧ Blk wx b7 [.func (.func 93) #[.pointer (some ⟨pb, 0, none⟩)] #[]] ∧ Blk wx pb [.int .i64 h.fl, .int .i64 h.gp, .int .i64 h.ln, .int .i64 h.rf, .int .i64 h.sp, .int .i64 h.pu, .int .i64 h.br, .int .i64 h.dr, .int .i64 h.lv, .int .i64 h.dO, .int .i64 h.ld, .int .i64 h.qu, .int .i64 (massN r), .int .i64 0, .int .i64 s.i, .int .i64 s.o, .int .i64 s.l, .int .i64 c.pos, .int .i64 c.vel, .int .i64 c.door] ∧ Blk wx b3 [.pointer (some ⟨pb, 0, none⟩)] ∧ Blk wx b4 [.int .i64 x.push, .bool x.brk, .bool x.opn] ∧ Below pb w wx)
  case first =>
    have FP : Hid (Blk W0.drew pb [.int .i64 h.fl, .int .i64 h.gp, .int .i64 h.ln, .int .i64 h.rf, .int .i64 h.sp, .int .i64 h.pu, .int .i64 h.br, .int .i64 h.dr, .int .i64 h.lv, .int .i64 h.dO, .int .i64 h.ld, .int .i64 h.qu, .int .i64 (massN r), .int .i64 0, .int .i64 s.i, .int .i64 s.o, .int .i64 s.l, .int .i64 c.pos, .int .i64 c.vel, .int .i64 c.door]) := FP.out.below (Below.refl _ _).drew FP.out.lt
    have F3 : Hid (Blk W0.drew b3 [.pointer (some ⟨pb, 0, none⟩)]) := F3.out.below (Below.refl _ _).drew F3.out.lt
    have F4 : Hid (Blk W0.drew b4 [.int .i64 x.push, .bool x.brk, .bool x.opn]) := F4.out.below (Below.refl _ _).drew F4.out.lt
    have FB : Hid (Below pb w W0.drew) := FB.out.drew
    refine wp_region_held_drew (S := (fun w'' => Blk w'' b3 ([.pointer (some ⟨pb, 0, none⟩)]) ∧ Blk w'' b4 ([.int .i64 x.push, .bool x.brk, .bool x.opn]))) (by kernel_rfl) (by (try dsimp only); first | exact ⟨F3.out, F4.out⟩ | go_keep) (fun hHeld => ?_)
    obtain ⟨v_1, hw1⟩ : ∃ v_1, v_1 = W0.drew := ⟨_, rfl⟩
    have FP : Hid (Blk v_1 pb [.int .i64 h.fl, .int .i64 h.gp, .int .i64 h.ln, .int .i64 h.rf, .int .i64 h.sp, .int .i64 h.pu, .int .i64 h.br, .int .i64 h.dr, .int .i64 h.lv, .int .i64 h.dO, .int .i64 h.ld, .int .i64 h.qu, .int .i64 (massN r), .int .i64 0, .int .i64 s.i, .int .i64 s.o, .int .i64 s.l, .int .i64 c.pos, .int .i64 c.vel, .int .i64 c.door]) := by rw [hw1]; exact FP.out
    have F3 : Hid (Blk v_1 b3 [.pointer (some ⟨pb, 0, none⟩)]) := by rw [hw1]; exact F3.out
    have F4 : Hid (Blk v_1 b4 [.int .i64 x.push, .bool x.brk, .bool x.opn]) := by rw [hw1]; exact F4.out
    have FB : Hid (Below pb w v_1) := by rw [hw1]; exact FB.out
    rw [← hw1] at hHeld ⊢
    clear hw1
    refine tkz 0 rfl ?_ (hQ := fun c a w h => leaves_void step_void _ _ _ h) (hy := Or.inl ⟨by kernel_rfl, by (intro wx hSw; have hq0_0 := hSw.1.c 0 _ rfl; (try dsimp only at hSw); go_simp <;> with_reducible rfl)⟩)
    refine tkz 2 rfl ?_ (hQ := fun c a w h => leaves_void step_void _ _ _ h) (hy := Or.inl ⟨by kernel_rfl, by (intro wx hSw; have hq0_0 := hSw.1.c 0 _ rfl; (try dsimp only at hSw); go_simp <;> with_reducible rfl)⟩)
    refine tkz 3 rfl ?_ (hQ := fun c a w h => leaves_void step_void _ _ _ h) (hy := Or.inl ⟨by kernel_rfl, fun wx hSw => exec_load_blk 42 _ Try.underlying42 (by kernel_rfl) rfl rfl hSw.2⟩)
    refine wpAnyH_ready (rs := [1, 5, 6]) (by kernel_rfl) (by simp) ?_
    refine (AllReadyH.cons rfl (fun K hK => ?_) (AllReadyH.cons rfl (fun K hK => ?_) (AllReadyH.cons rfl (fun K hK => ?_) AllReadyH.nil)))
    · go_simp
      refine (CE _ FP.out).mono ?_
      rintro e v_2 ⟨rfl, hb⟩
      have FP : Hid (Blk v_2 pb [.int .i64 h.fl, .int .i64 h.gp, .int .i64 h.ln, .int .i64 h.rf, .int .i64 h.sp, .int .i64 h.pu, .int .i64 h.br, .int .i64 h.dr, .int .i64 h.lv, .int .i64 h.dO, .int .i64 h.ld, .int .i64 h.qu, .int .i64 (massN r), .int .i64 0, .int .i64 s.i, .int .i64 s.o, .int .i64 s.l, .int .i64 c.pos, .int .i64 c.vel, .int .i64 c.door]) := FP.out.below hb FP.out.lt
      have F3 : Hid (Blk v_2 b3 [.pointer (some ⟨pb, 0, none⟩)]) := F3.out.below hb F3.out.lt
      have F4 : Hid (Blk v_2 b4 [.int .i64 x.push, .bool x.brk, .bool x.opn]) := F4.out.below hb F4.out.lt
      have FB : Hid (Below pb w v_2) := FB.out.trans (hb.mono (Nat.le_of_lt (Nat.lt_of_lt_of_le lt0 FB.out.size)))
      clear hb
      try dsimp only
      refine hK.out _ _ (by (try dsimp only); first | exact ⟨F3.out, F4.out⟩ | go_keep) (fun hHeld => ?_)
      clear hK K
      try simp only [Act.put, List.getElem_toArray, List.getElem_cons_succ, List.getElem_cons_zero, List.setIfInBounds_toArray, List.set_cons_zero, List.set_cons_succ]
      refine wpAnyH_ready (rs := [4, 5, 6]) (by kernel_rfl) (by simp) ?_
      refine (AllReadyH.cons rfl (fun K hK => ?_) (AllReadyH.cons rfl (fun K hK => ?_) (AllReadyH.cons rfl (fun K hK => ?_) AllReadyH.nil)))
      · go_simp
        refine (CF _).mono ?_
        rintro e v_3 ⟨rfl, hb⟩
        have FP : Hid (Blk v_3 pb [.int .i64 h.fl, .int .i64 h.gp, .int .i64 h.ln, .int .i64 h.rf, .int .i64 h.sp, .int .i64 h.pu, .int .i64 h.br, .int .i64 h.dr, .int .i64 h.lv, .int .i64 h.dO, .int .i64 h.ld, .int .i64 h.qu, .int .i64 (massN r), .int .i64 0, .int .i64 s.i, .int .i64 s.o, .int .i64 s.l, .int .i64 c.pos, .int .i64 c.vel, .int .i64 c.door]) := FP.out.below hb FP.out.lt
        have F3 : Hid (Blk v_3 b3 [.pointer (some ⟨pb, 0, none⟩)]) := F3.out.below hb F3.out.lt
        have F4 : Hid (Blk v_3 b4 [.int .i64 x.push, .bool x.brk, .bool x.opn]) := F4.out.below hb F4.out.lt
        have FB : Hid (Below pb w v_3) := FB.out.trans (hb.mono (Nat.le_of_lt (Nat.lt_of_lt_of_le lt0 FB.out.size)))
        clear hb
        try dsimp only
        refine hK.out _ _ (by (try dsimp only); first | exact ⟨F3.out, F4.out⟩ | go_keep) (fun hHeld => ?_)
        clear hK K
        try simp only [Act.put, List.getElem_toArray, List.getElem_cons_succ, List.getElem_cons_zero, List.setIfInBounds_toArray, List.set_cons_zero, List.set_cons_succ]
        refine wpAnyH_ready (rs := [5, 6]) (by kernel_rfl) (by simp) ?_
        refine (AllReadyH.cons rfl (fun K hK => ?_) (AllReadyH.cons rfl (fun K hK => ?_) AllReadyH.nil))
        · go_simp
          obtain ⟨b6, hbb⟩ : ∃ b6, b6 = v_3.heap.size := ⟨_, rfl⟩
          obtain ⟨v_4, hw2⟩ : ∃ v_4, v_4 = v_3.alloc (.cells #[.int .i64 0] 2) := ⟨_, rfl⟩
          have nb6_0 := FP.out.lt
          rw [← hbb] at nb6_0
          have nb6_1 := F3.out.lt
          rw [← hbb] at nb6_1
          have nb6_2 := F4.out.lt
          rw [← hbb] at nb6_2
          have G6 : Hid (Blk v_4 b6 [.int .i64 0]) := by rw [hw2]; exact Blk.at_ v_3 #[.int .i64 0] _ _ hbb
          have FP : Hid (Blk v_4 pb [.int .i64 h.fl, .int .i64 h.gp, .int .i64 h.ln, .int .i64 h.rf, .int .i64 h.sp, .int .i64 h.pu, .int .i64 h.br, .int .i64 h.dr, .int .i64 h.lv, .int .i64 h.dO, .int .i64 h.ld, .int .i64 h.qu, .int .i64 (massN r), .int .i64 0, .int .i64 s.i, .int .i64 s.o, .int .i64 s.l, .int .i64 c.pos, .int .i64 c.vel, .int .i64 c.door]) := by rw [hw2]; exact FP.out.alloc _
          have F3 : Hid (Blk v_4 b3 [.pointer (some ⟨pb, 0, none⟩)]) := by rw [hw2]; exact F3.out.alloc _
          have F4 : Hid (Blk v_4 b4 [.int .i64 x.push, .bool x.brk, .bool x.opn]) := by rw [hw2]; exact F4.out.alloc _
          have FB : Hid (Below pb w v_4) := by rw [hw2]; exact FB.out.alloc (Nat.le_of_lt (Nat.lt_of_lt_of_le lt0 FB.out.size)) _
          rw [← hw2, ← hbb]
          clear hbb hw2
          refine hK.out _ _ (by (try dsimp only); first | exact ⟨F3.out, F4.out⟩ | go_keep) (fun hHeld => ?_)
          clear hK K
          try simp only [Act.put, List.getElem_toArray, List.getElem_cons_succ, List.getElem_cons_zero, List.setIfInBounds_toArray, List.set_cons_zero, List.set_cons_succ]
          refine wpAnyH_ready (rs := [6]) (by kernel_rfl) (by simp) ?_
          refine (AllReadyH.cons rfl (fun K hK => ?_) AllReadyH.nil)
          go_simp
          obtain ⟨b7, hbb⟩ : ∃ b7, b7 = v_4.heap.size := ⟨_, rfl⟩
          obtain ⟨v_5, hw2⟩ : ∃ v_5, v_5 = v_4.alloc (.cells #[.nilFunc] 82) := ⟨_, rfl⟩
          have nb7_0 := FP.out.lt
          rw [← hbb] at nb7_0
          have nb7_1 := F3.out.lt
          rw [← hbb] at nb7_1
          have nb7_2 := F4.out.lt
          rw [← hbb] at nb7_2
          have nb7_4 := G6.out.lt
          rw [← hbb] at nb7_4
          have G7 : Hid (Blk v_5 b7 [.nilFunc]) := by rw [hw2]; exact Blk.at_ v_4 #[.nilFunc] _ _ hbb
          have FP : Hid (Blk v_5 pb [.int .i64 h.fl, .int .i64 h.gp, .int .i64 h.ln, .int .i64 h.rf, .int .i64 h.sp, .int .i64 h.pu, .int .i64 h.br, .int .i64 h.dr, .int .i64 h.lv, .int .i64 h.dO, .int .i64 h.ld, .int .i64 h.qu, .int .i64 (massN r), .int .i64 0, .int .i64 s.i, .int .i64 s.o, .int .i64 s.l, .int .i64 c.pos, .int .i64 c.vel, .int .i64 c.door]) := by rw [hw2]; exact FP.out.alloc _
          have F3 : Hid (Blk v_5 b3 [.pointer (some ⟨pb, 0, none⟩)]) := by rw [hw2]; exact F3.out.alloc _
          have F4 : Hid (Blk v_5 b4 [.int .i64 x.push, .bool x.brk, .bool x.opn]) := by rw [hw2]; exact F4.out.alloc _
          have FB : Hid (Below pb w v_5) := by rw [hw2]; exact FB.out.alloc (Nat.le_of_lt (Nat.lt_of_lt_of_le lt0 FB.out.size)) _
          have G6 : Hid (Blk v_5 b6 [.int .i64 0]) := by rw [hw2]; exact G6.out.alloc _
          rw [← hw2, ← hbb]
          clear hbb hw2
          refine hK.out _ _ (by (try dsimp only); first | exact ⟨F3.out, F4.out⟩ | go_keep) (fun hHeld => ?_)
          clear hK K
          try simp only [Act.put, List.getElem_toArray, List.getElem_cons_succ, List.getElem_cons_zero, List.setIfInBounds_toArray, List.set_cons_zero, List.set_cons_succ]
          refine wpAnyH_ready (rs := [7]) (by kernel_rfl) (by simp) ?_
          refine (AllReadyH.cons rfl (fun K hK => ?_) AllReadyH.nil)
          have k0 := G6.out.c 0 _ rfl
          have kf0 := G6.out.f 0 (by decide)
          go_simp
          obtain ⟨v_6, hw2⟩ : ∃ v_6, v_6 = putB v_5 b6 0 [.int .i64 ec] := ⟨_, rfl⟩
          change K _ (putB v_5 b6 0 [.int .i64 ec])
          rw [← hw2]
          clear k0 kf0
          have FP : Hid (Blk v_6 pb [.int .i64 h.fl, .int .i64 h.gp, .int .i64 h.ln, .int .i64 h.rf, .int .i64 h.sp, .int .i64 h.pu, .int .i64 h.br, .int .i64 h.dr, .int .i64 h.lv, .int .i64 h.dO, .int .i64 h.ld, .int .i64 h.qu, .int .i64 (massN r), .int .i64 0, .int .i64 s.i, .int .i64 s.o, .int .i64 s.l, .int .i64 c.pos, .int .i64 c.vel, .int .i64 c.door]) := by rw [hw2]; exact Blk.putB_other (by omega) _ 0 FP.out
          have F3 : Hid (Blk v_6 b3 [.pointer (some ⟨pb, 0, none⟩)]) := by rw [hw2]; exact Blk.putB_other (by omega) _ 0 F3.out
          have F4 : Hid (Blk v_6 b4 [.int .i64 x.push, .bool x.brk, .bool x.opn]) := by rw [hw2]; exact Blk.putB_other (by omega) _ 0 F4.out
          have FB : Hid (Below pb w v_6) := by rw [hw2]; exact below_putB FB.out (by omega) _ 0
          have G6 : Hid (Blk v_6 b6 [.int .i64 ec]) := by rw [hw2]; exact G6.out.put [.int .i64 ec] rfl
          have G7 : Hid (Blk v_6 b7 [.nilFunc]) := by rw [hw2]; exact Blk.putB_other (by omega) _ 0 G7.out
          clear hw2
          refine hK.out _ _ (by (try dsimp only); first | exact ⟨F3.out, F4.out⟩ | go_keep) (fun hHeld => ?_)
          clear hK K
          try simp only [Act.put, List.getElem_toArray, List.getElem_cons_succ, List.getElem_cons_zero, List.setIfInBounds_toArray, List.set_cons_zero, List.set_cons_succ]
          refine wpAnyH_ready (rs := [8]) (by kernel_rfl) (by simp) ?_
          refine (AllReadyH.cons rfl (fun K hK => ?_) AllReadyH.nil)
          have k0 := G7.out.c 0 _ rfl
          have kf0 := G7.out.f 0 (by decide)
          go_simp
          obtain ⟨v_7, hw2⟩ : ∃ v_7, v_7 = putB v_6 b7 0 [.func (.func 93) #[.pointer (some ⟨pb, 0, none⟩)] #[]] := ⟨_, rfl⟩
          change K _ (putB v_6 b7 0 [.func (.func 93) #[.pointer (some ⟨pb, 0, none⟩)] #[]])
          rw [← hw2]
          clear k0 kf0
          have FP : Hid (Blk v_7 pb [.int .i64 h.fl, .int .i64 h.gp, .int .i64 h.ln, .int .i64 h.rf, .int .i64 h.sp, .int .i64 h.pu, .int .i64 h.br, .int .i64 h.dr, .int .i64 h.lv, .int .i64 h.dO, .int .i64 h.ld, .int .i64 h.qu, .int .i64 (massN r), .int .i64 0, .int .i64 s.i, .int .i64 s.o, .int .i64 s.l, .int .i64 c.pos, .int .i64 c.vel, .int .i64 c.door]) := by rw [hw2]; exact Blk.putB_other (by omega) _ 0 FP.out
          have F3 : Hid (Blk v_7 b3 [.pointer (some ⟨pb, 0, none⟩)]) := by rw [hw2]; exact Blk.putB_other (by omega) _ 0 F3.out
          have F4 : Hid (Blk v_7 b4 [.int .i64 x.push, .bool x.brk, .bool x.opn]) := by rw [hw2]; exact Blk.putB_other (by omega) _ 0 F4.out
          have FB : Hid (Below pb w v_7) := by rw [hw2]; exact below_putB FB.out (by omega) _ 0
          have G6 : Hid (Blk v_7 b6 [.int .i64 ec]) := by rw [hw2]; exact Blk.putB_other (by omega) _ 0 G6.out
          have G7 : Hid (Blk v_7 b7 [.func (.func 93) #[.pointer (some ⟨pb, 0, none⟩)] #[]]) := by rw [hw2]; exact G7.out.put [.func (.func 93) #[.pointer (some ⟨pb, 0, none⟩)] #[]] rfl
          clear hw2
          refine hK.out _ _ (by (try dsimp only); first | exact ⟨F3.out, F4.out⟩ | go_keep) (fun hHeld => ?_)
          clear hK K
          try simp only [Act.put, List.getElem_toArray, List.getElem_cons_succ, List.getElem_cons_zero, List.setIfInBounds_toArray, List.set_cons_zero, List.set_cons_succ]
          refine wpAnyH_done (by kernel_rfl) ?_ _
          go_wp2_with fail
          go_meet
          case rel => exact ⟨b6, b7, rfl, rfl, by omega, by omega, G6.out, G7.out, FP.out, F3.out, F4.out, FB.out⟩
        · go_simp
          obtain ⟨b7, hbb⟩ : ∃ b7, b7 = v_3.heap.size := ⟨_, rfl⟩
          obtain ⟨v_8, hw2⟩ : ∃ v_8, v_8 = v_3.alloc (.cells #[.nilFunc] 82) := ⟨_, rfl⟩
          have nb7_0 := FP.out.lt
          rw [← hbb] at nb7_0
          have nb7_1 := F3.out.lt
          rw [← hbb] at nb7_1
          have nb7_2 := F4.out.lt
          rw [← hbb] at nb7_2
          have G7 : Hid (Blk v_8 b7 [.nilFunc]) := by rw [hw2]; exact Blk.at_ v_3 #[.nilFunc] _ _ hbb
          have FP : Hid (Blk v_8 pb [.int .i64 h.fl, .int .i64 h.gp, .int .i64 h.ln, .int .i64 h.rf, .int .i64 h.sp, .int .i64 h.pu, .int .i64 h.br, .int .i64 h.dr, .int .i64 h.lv, .int .i64 h.dO, .int .i64 h.ld, .int .i64 h.qu, .int .i64 (massN r), .int .i64 0, .int .i64 s.i, .int .i64 s.o, .int .i64 s.l, .int .i64 c.pos, .int .i64 c.vel, .int .i64 c.door]) := by rw [hw2]; exact FP.out.alloc _
          have F3 : Hid (Blk v_8 b3 [.pointer (some ⟨pb, 0, none⟩)]) := by rw [hw2]; exact F3.out.alloc _
          have F4 : Hid (Blk v_8 b4 [.int .i64 x.push, .bool x.brk, .bool x.opn]) := by rw [hw2]; exact F4.out.alloc _
          have FB : Hid (Below pb w v_8) := by rw [hw2]; exact FB.out.alloc (Nat.le_of_lt (Nat.lt_of_lt_of_le lt0 FB.out.size)) _
          rw [← hw2, ← hbb]
          clear hbb hw2
          refine hK.out _ _ (by (try dsimp only); first | exact ⟨F3.out, F4.out⟩ | go_keep) (fun hHeld => ?_)
          clear hK K
          try simp only [Act.put, List.getElem_toArray, List.getElem_cons_succ, List.getElem_cons_zero, List.setIfInBounds_toArray, List.set_cons_zero, List.set_cons_succ]
          refine wpAnyH_ready (rs := [5]) (by kernel_rfl) (by simp) ?_
          refine (AllReadyH.cons rfl (fun K hK => ?_) AllReadyH.nil)
          go_simp
          obtain ⟨b6, hbb⟩ : ∃ b6, b6 = v_8.heap.size := ⟨_, rfl⟩
          obtain ⟨v_9, hw2⟩ : ∃ v_9, v_9 = v_8.alloc (.cells #[.int .i64 0] 2) := ⟨_, rfl⟩
          have nb6_0 := FP.out.lt
          rw [← hbb] at nb6_0
          have nb6_1 := F3.out.lt
          rw [← hbb] at nb6_1
          have nb6_2 := F4.out.lt
          rw [← hbb] at nb6_2
          have nb6_4 := G7.out.lt
          rw [← hbb] at nb6_4
          have G6 : Hid (Blk v_9 b6 [.int .i64 0]) := by rw [hw2]; exact Blk.at_ v_8 #[.int .i64 0] _ _ hbb
          have FP : Hid (Blk v_9 pb [.int .i64 h.fl, .int .i64 h.gp, .int .i64 h.ln, .int .i64 h.rf, .int .i64 h.sp, .int .i64 h.pu, .int .i64 h.br, .int .i64 h.dr, .int .i64 h.lv, .int .i64 h.dO, .int .i64 h.ld, .int .i64 h.qu, .int .i64 (massN r), .int .i64 0, .int .i64 s.i, .int .i64 s.o, .int .i64 s.l, .int .i64 c.pos, .int .i64 c.vel, .int .i64 c.door]) := by rw [hw2]; exact FP.out.alloc _
          have F3 : Hid (Blk v_9 b3 [.pointer (some ⟨pb, 0, none⟩)]) := by rw [hw2]; exact F3.out.alloc _
          have F4 : Hid (Blk v_9 b4 [.int .i64 x.push, .bool x.brk, .bool x.opn]) := by rw [hw2]; exact F4.out.alloc _
          have FB : Hid (Below pb w v_9) := by rw [hw2]; exact FB.out.alloc (Nat.le_of_lt (Nat.lt_of_lt_of_le lt0 FB.out.size)) _
          have G7 : Hid (Blk v_9 b7 [.nilFunc]) := by rw [hw2]; exact G7.out.alloc _
          rw [← hw2, ← hbb]
          clear hbb hw2
          refine hK.out _ _ (by (try dsimp only); first | exact ⟨F3.out, F4.out⟩ | go_keep) (fun hHeld => ?_)
          clear hK K
          try simp only [Act.put, List.getElem_toArray, List.getElem_cons_succ, List.getElem_cons_zero, List.setIfInBounds_toArray, List.set_cons_zero, List.set_cons_succ]
          refine wpAnyH_ready (rs := [7]) (by kernel_rfl) (by simp) ?_
          refine (AllReadyH.cons rfl (fun K hK => ?_) AllReadyH.nil)
          have k0 := G6.out.c 0 _ rfl
          have kf0 := G6.out.f 0 (by decide)
          go_simp
          obtain ⟨v_10, hw2⟩ : ∃ v_10, v_10 = putB v_9 b6 0 [.int .i64 ec] := ⟨_, rfl⟩
          change K _ (putB v_9 b6 0 [.int .i64 ec])
          rw [← hw2]
          clear k0 kf0
          have FP : Hid (Blk v_10 pb [.int .i64 h.fl, .int .i64 h.gp, .int .i64 h.ln, .int .i64 h.rf, .int .i64 h.sp, .int .i64 h.pu, .int .i64 h.br, .int .i64 h.dr, .int .i64 h.lv, .int .i64 h.dO, .int .i64 h.ld, .int .i64 h.qu, .int .i64 (massN r), .int .i64 0, .int .i64 s.i, .int .i64 s.o, .int .i64 s.l, .int .i64 c.pos, .int .i64 c.vel, .int .i64 c.door]) := by rw [hw2]; exact Blk.putB_other (by omega) _ 0 FP.out
          have F3 : Hid (Blk v_10 b3 [.pointer (some ⟨pb, 0, none⟩)]) := by rw [hw2]; exact Blk.putB_other (by omega) _ 0 F3.out
          have F4 : Hid (Blk v_10 b4 [.int .i64 x.push, .bool x.brk, .bool x.opn]) := by rw [hw2]; exact Blk.putB_other (by omega) _ 0 F4.out
          have FB : Hid (Below pb w v_10) := by rw [hw2]; exact below_putB FB.out (by omega) _ 0
          have G7 : Hid (Blk v_10 b7 [.nilFunc]) := by rw [hw2]; exact Blk.putB_other (by omega) _ 0 G7.out
          have G6 : Hid (Blk v_10 b6 [.int .i64 ec]) := by rw [hw2]; exact G6.out.put [.int .i64 ec] rfl
          clear hw2
          refine hK.out _ _ (by (try dsimp only); first | exact ⟨F3.out, F4.out⟩ | go_keep) (fun hHeld => ?_)
          clear hK K
          try simp only [Act.put, List.getElem_toArray, List.getElem_cons_succ, List.getElem_cons_zero, List.setIfInBounds_toArray, List.set_cons_zero, List.set_cons_succ]
          refine wpAnyH_ready (rs := [8]) (by kernel_rfl) (by simp) ?_
          refine (AllReadyH.cons rfl (fun K hK => ?_) AllReadyH.nil)
          have k0 := G7.out.c 0 _ rfl
          have kf0 := G7.out.f 0 (by decide)
          go_simp
          obtain ⟨v_11, hw2⟩ : ∃ v_11, v_11 = putB v_10 b7 0 [.func (.func 93) #[.pointer (some ⟨pb, 0, none⟩)] #[]] := ⟨_, rfl⟩
          change K _ (putB v_10 b7 0 [.func (.func 93) #[.pointer (some ⟨pb, 0, none⟩)] #[]])
          rw [← hw2]
          clear k0 kf0
          have FP : Hid (Blk v_11 pb [.int .i64 h.fl, .int .i64 h.gp, .int .i64 h.ln, .int .i64 h.rf, .int .i64 h.sp, .int .i64 h.pu, .int .i64 h.br, .int .i64 h.dr, .int .i64 h.lv, .int .i64 h.dO, .int .i64 h.ld, .int .i64 h.qu, .int .i64 (massN r), .int .i64 0, .int .i64 s.i, .int .i64 s.o, .int .i64 s.l, .int .i64 c.pos, .int .i64 c.vel, .int .i64 c.door]) := by rw [hw2]; exact Blk.putB_other (by omega) _ 0 FP.out
          have F3 : Hid (Blk v_11 b3 [.pointer (some ⟨pb, 0, none⟩)]) := by rw [hw2]; exact Blk.putB_other (by omega) _ 0 F3.out
          have F4 : Hid (Blk v_11 b4 [.int .i64 x.push, .bool x.brk, .bool x.opn]) := by rw [hw2]; exact Blk.putB_other (by omega) _ 0 F4.out
          have FB : Hid (Below pb w v_11) := by rw [hw2]; exact below_putB FB.out (by omega) _ 0
          have G7 : Hid (Blk v_11 b7 [.func (.func 93) #[.pointer (some ⟨pb, 0, none⟩)] #[]]) := by rw [hw2]; exact G7.out.put [.func (.func 93) #[.pointer (some ⟨pb, 0, none⟩)] #[]] rfl
          have G6 : Hid (Blk v_11 b6 [.int .i64 ec]) := by rw [hw2]; exact Blk.putB_other (by omega) _ 0 G6.out
          clear hw2
          refine hK.out _ _ (by (try dsimp only); first | exact ⟨F3.out, F4.out⟩ | go_keep) (fun hHeld => ?_)
          clear hK K
          try simp only [Act.put, List.getElem_toArray, List.getElem_cons_succ, List.getElem_cons_zero, List.setIfInBounds_toArray, List.set_cons_zero, List.set_cons_succ]
          refine wpAnyH_done (by kernel_rfl) ?_ _
          go_wp2_with fail
          go_meet
          case rel => exact ⟨b6, b7, rfl, rfl, by omega, by omega, G6.out, G7.out, FP.out, F3.out, F4.out, FB.out⟩
      · go_simp
        obtain ⟨b6, hbb⟩ : ∃ b6, b6 = v_2.heap.size := ⟨_, rfl⟩
        obtain ⟨v_12, hw2⟩ : ∃ v_12, v_12 = v_2.alloc (.cells #[.int .i64 0] 2) := ⟨_, rfl⟩
        have nb6_0 := FP.out.lt
        rw [← hbb] at nb6_0
        have nb6_1 := F3.out.lt
        rw [← hbb] at nb6_1
        have nb6_2 := F4.out.lt
        rw [← hbb] at nb6_2
        have G6 : Hid (Blk v_12 b6 [.int .i64 0]) := by rw [hw2]; exact Blk.at_ v_2 #[.int .i64 0] _ _ hbb
        have FP : Hid (Blk v_12 pb [.int .i64 h.fl, .int .i64 h.gp, .int .i64 h.ln, .int .i64 h.rf, .int .i64 h.sp, .int .i64 h.pu, .int .i64 h.br, .int .i64 h.dr, .int .i64 h.lv, .int .i64 h.dO, .int .i64 h.ld, .int .i64 h.qu, .int .i64 (massN r), .int .i64 0, .int .i64 s.i, .int .i64 s.o, .int .i64 s.l, .int .i64 c.pos, .int .i64 c.vel, .int .i64 c.door]) := by rw [hw2]; exact FP.out.alloc _
        have F3 : Hid (Blk v_12 b3 [.pointer (some ⟨pb, 0, none⟩)]) := by rw [hw2]; exact F3.out.alloc _
        have F4 : Hid (Blk v_12 b4 [.int .i64 x.push, .bool x.brk, .bool x.opn]) := by rw [hw2]; exact F4.out.alloc _
        have FB : Hid (Below pb w v_12) := by rw [hw2]; exact FB.out.alloc (Nat.le_of_lt (Nat.lt_of_lt_of_le lt0 FB.out.size)) _
        rw [← hw2, ← hbb]
        clear hbb hw2
        refine hK.out _ _ (by (try dsimp only); first | exact ⟨F3.out, F4.out⟩ | go_keep) (fun hHeld => ?_)
        clear hK K
        try simp only [Act.put, List.getElem_toArray, List.getElem_cons_succ, List.getElem_cons_zero, List.setIfInBounds_toArray, List.set_cons_zero, List.set_cons_succ]
        refine wpAnyH_ready (rs := [4, 6]) (by kernel_rfl) (by simp) ?_
        refine (AllReadyH.cons rfl (fun K hK => ?_) (AllReadyH.cons rfl (fun K hK => ?_) AllReadyH.nil))
        · go_simp
          refine (CF _).mono ?_
          rintro e v_13 ⟨rfl, hb⟩
          have FP : Hid (Blk v_13 pb [.int .i64 h.fl, .int .i64 h.gp, .int .i64 h.ln, .int .i64 h.rf, .int .i64 h.sp, .int .i64 h.pu, .int .i64 h.br, .int .i64 h.dr, .int .i64 h.lv, .int .i64 h.dO, .int .i64 h.ld, .int .i64 h.qu, .int .i64 (massN r), .int .i64 0, .int .i64 s.i, .int .i64 s.o, .int .i64 s.l, .int .i64 c.pos, .int .i64 c.vel, .int .i64 c.door]) := FP.out.below hb FP.out.lt
          have F3 : Hid (Blk v_13 b3 [.pointer (some ⟨pb, 0, none⟩)]) := F3.out.below hb F3.out.lt
          have F4 : Hid (Blk v_13 b4 [.int .i64 x.push, .bool x.brk, .bool x.opn]) := F4.out.below hb F4.out.lt
          have FB : Hid (Below pb w v_13) := FB.out.trans (hb.mono (Nat.le_of_lt (Nat.lt_of_lt_of_le lt0 FB.out.size)))
          have G6 : Hid (Blk v_13 b6 [.int .i64 0]) := G6.out.below hb G6.out.lt
          clear hb
          try dsimp only
          refine hK.out _ _ (by (try dsimp only); first | exact ⟨F3.out, F4.out⟩ | go_keep) (fun hHeld => ?_)
          clear hK K
          try simp only [Act.put, List.getElem_toArray, List.getElem_cons_succ, List.getElem_cons_zero, List.setIfInBounds_toArray, List.set_cons_zero, List.set_cons_succ]
          refine wpAnyH_ready (rs := [6]) (by kernel_rfl) (by simp) ?_
          refine (AllReadyH.cons rfl (fun K hK => ?_) AllReadyH.nil)
          go_simp
          obtain ⟨b7, hbb⟩ : ∃ b7, b7 = v_13.heap.size := ⟨_, rfl⟩
          obtain ⟨v_14, hw2⟩ : ∃ v_14, v_14 = v_13.alloc (.cells #[.nilFunc] 82) := ⟨_, rfl⟩
          have nb7_0 := FP.out.lt
          rw [← hbb] at nb7_0
          have nb7_1 := F3.out.lt
          rw [← hbb] at nb7_1
          have nb7_2 := F4.out.lt
          rw [← hbb] at nb7_2
          have nb7_4 := G6.out.lt
          rw [← hbb] at nb7_4
          have G7 : Hid (Blk v_14 b7 [.nilFunc]) := by rw [hw2]; exact Blk.at_ v_13 #[.nilFunc] _ _ hbb
          have FP : Hid (Blk v_14 pb [.int .i64 h.fl, .int .i64 h.gp, .int .i64 h.ln, .int .i64 h.rf, .int .i64 h.sp, .int .i64 h.pu, .int .i64 h.br, .int .i64 h.dr, .int .i64 h.lv, .int .i64 h.dO, .int .i64 h.ld, .int .i64 h.qu, .int .i64 (massN r), .int .i64 0, .int .i64 s.i, .int .i64 s.o, .int .i64 s.l, .int .i64 c.pos, .int .i64 c.vel, .int .i64 c.door]) := by rw [hw2]; exact FP.out.alloc _
          have F3 : Hid (Blk v_14 b3 [.pointer (some ⟨pb, 0, none⟩)]) := by rw [hw2]; exact F3.out.alloc _
          have F4 : Hid (Blk v_14 b4 [.int .i64 x.push, .bool x.brk, .bool x.opn]) := by rw [hw2]; exact F4.out.alloc _
          have FB : Hid (Below pb w v_14) := by rw [hw2]; exact FB.out.alloc (Nat.le_of_lt (Nat.lt_of_lt_of_le lt0 FB.out.size)) _
          have G6 : Hid (Blk v_14 b6 [.int .i64 0]) := by rw [hw2]; exact G6.out.alloc _
          rw [← hw2, ← hbb]
          clear hbb hw2
          refine hK.out _ _ (by (try dsimp only); first | exact ⟨F3.out, F4.out⟩ | go_keep) (fun hHeld => ?_)
          clear hK K
          try simp only [Act.put, List.getElem_toArray, List.getElem_cons_succ, List.getElem_cons_zero, List.setIfInBounds_toArray, List.set_cons_zero, List.set_cons_succ]
          refine wpAnyH_ready (rs := [7]) (by kernel_rfl) (by simp) ?_
          refine (AllReadyH.cons rfl (fun K hK => ?_) AllReadyH.nil)
          have k0 := G6.out.c 0 _ rfl
          have kf0 := G6.out.f 0 (by decide)
          go_simp
          obtain ⟨v_15, hw2⟩ : ∃ v_15, v_15 = putB v_14 b6 0 [.int .i64 ec] := ⟨_, rfl⟩
          change K _ (putB v_14 b6 0 [.int .i64 ec])
          rw [← hw2]
          clear k0 kf0
          have FP : Hid (Blk v_15 pb [.int .i64 h.fl, .int .i64 h.gp, .int .i64 h.ln, .int .i64 h.rf, .int .i64 h.sp, .int .i64 h.pu, .int .i64 h.br, .int .i64 h.dr, .int .i64 h.lv, .int .i64 h.dO, .int .i64 h.ld, .int .i64 h.qu, .int .i64 (massN r), .int .i64 0, .int .i64 s.i, .int .i64 s.o, .int .i64 s.l, .int .i64 c.pos, .int .i64 c.vel, .int .i64 c.door]) := by rw [hw2]; exact Blk.putB_other (by omega) _ 0 FP.out
          have F3 : Hid (Blk v_15 b3 [.pointer (some ⟨pb, 0, none⟩)]) := by rw [hw2]; exact Blk.putB_other (by omega) _ 0 F3.out
          have F4 : Hid (Blk v_15 b4 [.int .i64 x.push, .bool x.brk, .bool x.opn]) := by rw [hw2]; exact Blk.putB_other (by omega) _ 0 F4.out
          have FB : Hid (Below pb w v_15) := by rw [hw2]; exact below_putB FB.out (by omega) _ 0
          have G6 : Hid (Blk v_15 b6 [.int .i64 ec]) := by rw [hw2]; exact G6.out.put [.int .i64 ec] rfl
          have G7 : Hid (Blk v_15 b7 [.nilFunc]) := by rw [hw2]; exact Blk.putB_other (by omega) _ 0 G7.out
          clear hw2
          refine hK.out _ _ (by (try dsimp only); first | exact ⟨F3.out, F4.out⟩ | go_keep) (fun hHeld => ?_)
          clear hK K
          try simp only [Act.put, List.getElem_toArray, List.getElem_cons_succ, List.getElem_cons_zero, List.setIfInBounds_toArray, List.set_cons_zero, List.set_cons_succ]
          refine wpAnyH_ready (rs := [8]) (by kernel_rfl) (by simp) ?_
          refine (AllReadyH.cons rfl (fun K hK => ?_) AllReadyH.nil)
          have k0 := G7.out.c 0 _ rfl
          have kf0 := G7.out.f 0 (by decide)
          go_simp
          obtain ⟨v_16, hw2⟩ : ∃ v_16, v_16 = putB v_15 b7 0 [.func (.func 93) #[.pointer (some ⟨pb, 0, none⟩)] #[]] := ⟨_, rfl⟩
          change K _ (putB v_15 b7 0 [.func (.func 93) #[.pointer (some ⟨pb, 0, none⟩)] #[]])
          rw [← hw2]
          clear k0 kf0
          have FP : Hid (Blk v_16 pb [.int .i64 h.fl, .int .i64 h.gp, .int .i64 h.ln, .int .i64 h.rf, .int .i64 h.sp, .int .i64 h.pu, .int .i64 h.br, .int .i64 h.dr, .int .i64 h.lv, .int .i64 h.dO, .int .i64 h.ld, .int .i64 h.qu, .int .i64 (massN r), .int .i64 0, .int .i64 s.i, .int .i64 s.o, .int .i64 s.l, .int .i64 c.pos, .int .i64 c.vel, .int .i64 c.door]) := by rw [hw2]; exact Blk.putB_other (by omega) _ 0 FP.out
          have F3 : Hid (Blk v_16 b3 [.pointer (some ⟨pb, 0, none⟩)]) := by rw [hw2]; exact Blk.putB_other (by omega) _ 0 F3.out
          have F4 : Hid (Blk v_16 b4 [.int .i64 x.push, .bool x.brk, .bool x.opn]) := by rw [hw2]; exact Blk.putB_other (by omega) _ 0 F4.out
          have FB : Hid (Below pb w v_16) := by rw [hw2]; exact below_putB FB.out (by omega) _ 0
          have G6 : Hid (Blk v_16 b6 [.int .i64 ec]) := by rw [hw2]; exact Blk.putB_other (by omega) _ 0 G6.out
          have G7 : Hid (Blk v_16 b7 [.func (.func 93) #[.pointer (some ⟨pb, 0, none⟩)] #[]]) := by rw [hw2]; exact G7.out.put [.func (.func 93) #[.pointer (some ⟨pb, 0, none⟩)] #[]] rfl
          clear hw2
          refine hK.out _ _ (by (try dsimp only); first | exact ⟨F3.out, F4.out⟩ | go_keep) (fun hHeld => ?_)
          clear hK K
          try simp only [Act.put, List.getElem_toArray, List.getElem_cons_succ, List.getElem_cons_zero, List.setIfInBounds_toArray, List.set_cons_zero, List.set_cons_succ]
          refine wpAnyH_done (by kernel_rfl) ?_ _
          go_wp2_with fail
          go_meet
          case rel => exact ⟨b6, b7, rfl, rfl, by omega, by omega, G6.out, G7.out, FP.out, F3.out, F4.out, FB.out⟩
        · go_simp
          obtain ⟨b7, hbb⟩ : ∃ b7, b7 = v_12.heap.size := ⟨_, rfl⟩
          obtain ⟨v_17, hw2⟩ : ∃ v_17, v_17 = v_12.alloc (.cells #[.nilFunc] 82) := ⟨_, rfl⟩
          have nb7_0 := FP.out.lt
          rw [← hbb] at nb7_0
          have nb7_1 := F3.out.lt
          rw [← hbb] at nb7_1
          have nb7_2 := F4.out.lt
          rw [← hbb] at nb7_2
          have nb7_4 := G6.out.lt
          rw [← hbb] at nb7_4
          have G7 : Hid (Blk v_17 b7 [.nilFunc]) := by rw [hw2]; exact Blk.at_ v_12 #[.nilFunc] _ _ hbb
          have FP : Hid (Blk v_17 pb [.int .i64 h.fl, .int .i64 h.gp, .int .i64 h.ln, .int .i64 h.rf, .int .i64 h.sp, .int .i64 h.pu, .int .i64 h.br, .int .i64 h.dr, .int .i64 h.lv, .int .i64 h.dO, .int .i64 h.ld, .int .i64 h.qu, .int .i64 (massN r), .int .i64 0, .int .i64 s.i, .int .i64 s.o, .int .i64 s.l, .int .i64 c.pos, .int .i64 c.vel, .int .i64 c.door]) := by rw [hw2]; exact FP.out.alloc _
          have F3 : Hid (Blk v_17 b3 [.pointer (some ⟨pb, 0, none⟩)]) := by rw [hw2]; exact F3.out.alloc _
          have F4 : Hid (Blk v_17 b4 [.int .i64 x.push, .bool x.brk, .bool x.opn]) := by rw [hw2]; exact F4.out.alloc _
          have FB : Hid (Below pb w v_17) := by rw [hw2]; exact FB.out.alloc (Nat.le_of_lt (Nat.lt_of_lt_of_le lt0 FB.out.size)) _
          have G6 : Hid (Blk v_17 b6 [.int .i64 0]) := by rw [hw2]; exact G6.out.alloc _
          rw [← hw2, ← hbb]
          clear hbb hw2
          refine hK.out _ _ (by (try dsimp only); first | exact ⟨F3.out, F4.out⟩ | go_keep) (fun hHeld => ?_)
          clear hK K
          try simp only [Act.put, List.getElem_toArray, List.getElem_cons_succ, List.getElem_cons_zero, List.setIfInBounds_toArray, List.set_cons_zero, List.set_cons_succ]
          refine wpAnyH_ready (rs := [4]) (by kernel_rfl) (by simp) ?_
          refine (AllReadyH.cons rfl (fun K hK => ?_) AllReadyH.nil)
          go_simp
          refine (CF _).mono ?_
          rintro e v_18 ⟨rfl, hb⟩
          have FP : Hid (Blk v_18 pb [.int .i64 h.fl, .int .i64 h.gp, .int .i64 h.ln, .int .i64 h.rf, .int .i64 h.sp, .int .i64 h.pu, .int .i64 h.br, .int .i64 h.dr, .int .i64 h.lv, .int .i64 h.dO, .int .i64 h.ld, .int .i64 h.qu, .int .i64 (massN r), .int .i64 0, .int .i64 s.i, .int .i64 s.o, .int .i64 s.l, .int .i64 c.pos, .int .i64 c.vel, .int .i64 c.door]) := FP.out.below hb FP.out.lt
          have F3 : Hid (Blk v_18 b3 [.pointer (some ⟨pb, 0, none⟩)]) := F3.out.below hb F3.out.lt
          have F4 : Hid (Blk v_18 b4 [.int .i64 x.push, .bool x.brk, .bool x.opn]) := F4.out.below hb F4.out.lt
          have FB : Hid (Below pb w v_18) := FB.out.trans (hb.mono (Nat.le_of_lt (Nat.lt_of_lt_of_le lt0 FB.out.size)))
          have G6 : Hid (Blk v_18 b6 [.int .i64 0]) := G6.out.below hb G6.out.lt
          have G7 : Hid (Blk v_18 b7 [.nilFunc]) := G7.out.below hb G7.out.lt
          clear hb
          try dsimp only
          refine hK.out _ _ (by (try dsimp only); first | exact ⟨F3.out, F4.out⟩ | go_keep) (fun hHeld => ?_)
          clear hK K
          try simp only [Act.put, List.getElem_toArray, List.getElem_cons_succ, List.getElem_cons_zero, List.setIfInBounds_toArray, List.set_cons_zero, List.set_cons_succ]
          refine wpAnyH_ready (rs := [7]) (by kernel_rfl) (by simp) ?_
          refine (AllReadyH.cons rfl (fun K hK => ?_) AllReadyH.nil)
          have k0 := G6.out.c 0 _ rfl
          have kf0 := G6.out.f 0 (by decide)
          go_simp
          obtain ⟨v_19, hw2⟩ : ∃ v_19, v_19 = putB v_18 b6 0 [.int .i64 ec] := ⟨_, rfl⟩
          change K _ (putB v_18 b6 0 [.int .i64 ec])
          rw [← hw2]
          clear k0 kf0
          have FP : Hid (Blk v_19 pb [.int .i64 h.fl, .int .i64 h.gp, .int .i64 h.ln, .int .i64 h.rf, .int .i64 h.sp, .int .i64 h.pu, .int .i64 h.br, .int .i64 h.dr, .int .i64 h.lv, .int .i64 h.dO, .int .i64 h.ld, .int .i64 h.qu, .int .i64 (massN r), .int .i64 0, .int .i64 s.i, .int .i64 s.o, .int .i64 s.l, .int .i64 c.pos, .int .i64 c.vel, .int .i64 c.door]) := by rw [hw2]; exact Blk.putB_other (by omega) _ 0 FP.out
          have F3 : Hid (Blk v_19 b3 [.pointer (some ⟨pb, 0, none⟩)]) := by rw [hw2]; exact Blk.putB_other (by omega) _ 0 F3.out
          have F4 : Hid (Blk v_19 b4 [.int .i64 x.push, .bool x.brk, .bool x.opn]) := by rw [hw2]; exact Blk.putB_other (by omega) _ 0 F4.out
          have FB : Hid (Below pb w v_19) := by rw [hw2]; exact below_putB FB.out (by omega) _ 0
          have G6 : Hid (Blk v_19 b6 [.int .i64 ec]) := by rw [hw2]; exact G6.out.put [.int .i64 ec] rfl
          have G7 : Hid (Blk v_19 b7 [.nilFunc]) := by rw [hw2]; exact Blk.putB_other (by omega) _ 0 G7.out
          clear hw2
          refine hK.out _ _ (by (try dsimp only); first | exact ⟨F3.out, F4.out⟩ | go_keep) (fun hHeld => ?_)
          clear hK K
          try simp only [Act.put, List.getElem_toArray, List.getElem_cons_succ, List.getElem_cons_zero, List.setIfInBounds_toArray, List.set_cons_zero, List.set_cons_succ]
          refine wpAnyH_ready (rs := [8]) (by kernel_rfl) (by simp) ?_
          refine (AllReadyH.cons rfl (fun K hK => ?_) AllReadyH.nil)
          have k0 := G7.out.c 0 _ rfl
          have kf0 := G7.out.f 0 (by decide)
          go_simp
          obtain ⟨v_20, hw2⟩ : ∃ v_20, v_20 = putB v_19 b7 0 [.func (.func 93) #[.pointer (some ⟨pb, 0, none⟩)] #[]] := ⟨_, rfl⟩
          change K _ (putB v_19 b7 0 [.func (.func 93) #[.pointer (some ⟨pb, 0, none⟩)] #[]])
          rw [← hw2]
          clear k0 kf0
          have FP : Hid (Blk v_20 pb [.int .i64 h.fl, .int .i64 h.gp, .int .i64 h.ln, .int .i64 h.rf, .int .i64 h.sp, .int .i64 h.pu, .int .i64 h.br, .int .i64 h.dr, .int .i64 h.lv, .int .i64 h.dO, .int .i64 h.ld, .int .i64 h.qu, .int .i64 (massN r), .int .i64 0, .int .i64 s.i, .int .i64 s.o, .int .i64 s.l, .int .i64 c.pos, .int .i64 c.vel, .int .i64 c.door]) := by rw [hw2]; exact Blk.putB_other (by omega) _ 0 FP.out
          have F3 : Hid (Blk v_20 b3 [.pointer (some ⟨pb, 0, none⟩)]) := by rw [hw2]; exact Blk.putB_other (by omega) _ 0 F3.out
          have F4 : Hid (Blk v_20 b4 [.int .i64 x.push, .bool x.brk, .bool x.opn]) := by rw [hw2]; exact Blk.putB_other (by omega) _ 0 F4.out
          have FB : Hid (Below pb w v_20) := by rw [hw2]; exact below_putB FB.out (by omega) _ 0
          have G6 : Hid (Blk v_20 b6 [.int .i64 ec]) := by rw [hw2]; exact Blk.putB_other (by omega) _ 0 G6.out
          have G7 : Hid (Blk v_20 b7 [.func (.func 93) #[.pointer (some ⟨pb, 0, none⟩)] #[]]) := by rw [hw2]; exact G7.out.put [.func (.func 93) #[.pointer (some ⟨pb, 0, none⟩)] #[]] rfl
          clear hw2
          refine hK.out _ _ (by (try dsimp only); first | exact ⟨F3.out, F4.out⟩ | go_keep) (fun hHeld => ?_)
          clear hK K
          try simp only [Act.put, List.getElem_toArray, List.getElem_cons_succ, List.getElem_cons_zero, List.setIfInBounds_toArray, List.set_cons_zero, List.set_cons_succ]
          refine wpAnyH_done (by kernel_rfl) ?_ _
          go_wp2_with fail
          go_meet
          case rel => exact ⟨b6, b7, rfl, rfl, by omega, by omega, G6.out, G7.out, FP.out, F3.out, F4.out, FB.out⟩
      · go_simp
        obtain ⟨b7, hbb⟩ : ∃ b7, b7 = v_2.heap.size := ⟨_, rfl⟩
        obtain ⟨v_21, hw2⟩ : ∃ v_21, v_21 = v_2.alloc (.cells #[.nilFunc] 82) := ⟨_, rfl⟩
        have nb7_0 := FP.out.lt
        rw [← hbb] at nb7_0
        have nb7_1 := F3.out.lt
        rw [← hbb] at nb7_1
        have nb7_2 := F4.out.lt
        rw [← hbb] at nb7_2
        have G7 : Hid (Blk v_21 b7 [.nilFunc]) := by rw [hw2]; exact Blk.at_ v_2 #[.nilFunc] _ _ hbb
        have FP : Hid (Blk v_21 pb [.int .i64 h.fl, .int .i64 h.gp, .int .i64 h.ln, .int .i64 h.rf, .int .i64 h.sp, .int .i64 h.pu, .int .i64 h.br, .int .i64 h.dr, .int .i64 h.lv, .int .i64 h.dO, .int .i64 h.ld, .int .i64 h.qu, .int .i64 (massN r), .int .i64 0, .int .i64 s.i, .int .i64 s.o, .int .i64 s.l, .int .i64 c.pos, .int .i64 c.vel, .int .i64 c.door]) := by rw [hw2]; exact FP.out.alloc _
        have F3 : Hid (Blk v_21 b3 [.pointer (some ⟨pb, 0, none⟩)]) := by rw [hw2]; exact F3.out.alloc _
        have F4 : Hid (Blk v_21 b4 [.int .i64 x.push, .bool x.brk, .bool x.opn]) := by rw [hw2]; exact F4.out.alloc _
        have FB : Hid (Below pb w v_21) := by rw [hw2]; exact FB.out.alloc (Nat.le_of_lt (Nat.lt_of_lt_of_le lt0 FB.out.size)) _
        rw [← hw2, ← hbb]
        clear hbb hw2
        refine hK.out _ _ (by (try dsimp only); first | exact ⟨F3.out, F4.out⟩ | go_keep) (fun hHeld => ?_)
        clear hK K
        try simp only [Act.put, List.getElem_toArray, List.getElem_cons_succ, List.getElem_cons_zero, List.setIfInBounds_toArray, List.set_cons_zero, List.set_cons_succ]
        refine wpAnyH_ready (rs := [4, 5]) (by kernel_rfl) (by simp) ?_
        refine (AllReadyH.cons rfl (fun K hK => ?_) (AllReadyH.cons rfl (fun K hK => ?_) AllReadyH.nil))
        · go_simp
          refine (CF _).mono ?_
          rintro e v_22 ⟨rfl, hb⟩
          have FP : Hid (Blk v_22 pb [.int .i64 h.fl, .int .i64 h.gp, .int .i64 h.ln, .int .i64 h.rf, .int .i64 h.sp, .int .i64 h.pu, .int .i64 h.br, .int .i64 h.dr, .int .i64 h.lv, .int .i64 h.dO, .int .i64 h.ld, .int .i64 h.qu, .int .i64 (massN r), .int .i64 0, .int .i64 s.i, .int .i64 s.o, .int .i64 s.l, .int .i64 c.pos, .int .i64 c.vel, .int .i64 c.door]) := FP.out.below hb FP.out.lt
          have F3 : Hid (Blk v_22 b3 [.pointer (some ⟨pb, 0, none⟩)]) := F3.out.below hb F3.out.lt
          have F4 : Hid (Blk v_22 b4 [.int .i64 x.push, .bool x.brk, .bool x.opn]) := F4.out.below hb F4.out.lt
          have FB : Hid (Below pb w v_22) := FB.out.trans (hb.mono (Nat.le_of_lt (Nat.lt_of_lt_of_le lt0 FB.out.size)))
          have G7 : Hid (Blk v_22 b7 [.nilFunc]) := G7.out.below hb G7.out.lt
          clear hb
          try dsimp only
          refine hK.out _ _ (by (try dsimp only); first | exact ⟨F3.out, F4.out⟩ | go_keep) (fun hHeld => ?_)
          clear hK K
          try simp only [Act.put, List.getElem_toArray, List.getElem_cons_succ, List.getElem_cons_zero, List.setIfInBounds_toArray, List.set_cons_zero, List.set_cons_succ]
          refine wpAnyH_ready (rs := [5]) (by kernel_rfl) (by simp) ?_
          refine (AllReadyH.cons rfl (fun K hK => ?_) AllReadyH.nil)
          go_simp
          obtain ⟨b6, hbb⟩ : ∃ b6, b6 = v_22.heap.size := ⟨_, rfl⟩
          obtain ⟨v_23, hw2⟩ : ∃ v_23, v_23 = v_22.alloc (.cells #[.int .i64 0] 2) := ⟨_, rfl⟩
          have nb6_0 := FP.out.lt
          rw [← hbb] at nb6_0
          have nb6_1 := F3.out.lt
          rw [← hbb] at nb6_1
          have nb6_2 := F4.out.lt
          rw [← hbb] at nb6_2
          have nb6_4 := G7.out.lt
          rw [← hbb] at nb6_4
          have G6 : Hid (Blk v_23 b6 [.int .i64 0]) := by rw [hw2]; exact Blk.at_ v_22 #[.int .i64 0] _ _ hbb
          have FP : Hid (Blk v_23 pb [.int .i64 h.fl, .int .i64 h.gp, .int .i64 h.ln, .int .i64 h.rf, .int .i64 h.sp, .int .i64 h.pu, .int .i64 h.br, .int .i64 h.dr, .int .i64 h.lv, .int .i64 h.dO, .int .i64 h.ld, .int .i64 h.qu, .int .i64 (massN r), .int .i64 0, .int .i64 s.i, .int .i64 s.o, .int .i64 s.l, .int .i64 c.pos, .int .i64 c.vel, .int .i64 c.door]) := by rw [hw2]; exact FP.out.alloc _
          have F3 : Hid (Blk v_23 b3 [.pointer (some ⟨pb, 0, none⟩)]) := by rw [hw2]; exact F3.out.alloc _
          have F4 : Hid (Blk v_23 b4 [.int .i64 x.push, .bool x.brk, .bool x.opn]) := by rw [hw2]; exact F4.out.alloc _
          have FB : Hid (Below pb w v_23) := by rw [hw2]; exact FB.out.alloc (Nat.le_of_lt (Nat.lt_of_lt_of_le lt0 FB.out.size)) _
          have G7 : Hid (Blk v_23 b7 [.nilFunc]) := by rw [hw2]; exact G7.out.alloc _
          rw [← hw2, ← hbb]
          clear hbb hw2
          refine hK.out _ _ (by (try dsimp only); first | exact ⟨F3.out, F4.out⟩ | go_keep) (fun hHeld => ?_)
          clear hK K
          try simp only [Act.put, List.getElem_toArray, List.getElem_cons_succ, List.getElem_cons_zero, List.setIfInBounds_toArray, List.set_cons_zero, List.set_cons_succ]
          refine wpAnyH_ready (rs := [7]) (by kernel_rfl) (by simp) ?_
          refine (AllReadyH.cons rfl (fun K hK => ?_) AllReadyH.nil)
          have k0 := G6.out.c 0 _ rfl
          have kf0 := G6.out.f 0 (by decide)
          go_simp
          obtain ⟨v_24, hw2⟩ : ∃ v_24, v_24 = putB v_23 b6 0 [.int .i64 ec] := ⟨_, rfl⟩
          change K _ (putB v_23 b6 0 [.int .i64 ec])
          rw [← hw2]
          clear k0 kf0
          have FP : Hid (Blk v_24 pb [.int .i64 h.fl, .int .i64 h.gp, .int .i64 h.ln, .int .i64 h.rf, .int .i64 h.sp, .int .i64 h.pu, .int .i64 h.br, .int .i64 h.dr, .int .i64 h.lv, .int .i64 h.dO, .int .i64 h.ld, .int .i64 h.qu, .int .i64 (massN r), .int .i64 0, .int .i64 s.i, .int .i64 s.o, .int .i64 s.l, .int .i64 c.pos, .int .i64 c.vel, .int .i64 c.door]) := by rw [hw2]; exact Blk.putB_other (by omega) _ 0 FP.out
          have F3 : Hid (Blk v_24 b3 [.pointer (some ⟨pb, 0, none⟩)]) := by rw [hw2]; exact Blk.putB_other (by omega) _ 0 F3.out
          have F4 : Hid (Blk v_24 b4 [.int .i64 x.push, .bool x.brk, .bool x.opn]) := by rw [hw2]; exact Blk.putB_other (by omega) _ 0 F4.out
          have FB : Hid (Below pb w v_24) := by rw [hw2]; exact below_putB FB.out (by omega) _ 0
          have G7 : Hid (Blk v_24 b7 [.nilFunc]) := by rw [hw2]; exact Blk.putB_other (by omega) _ 0 G7.out
          have G6 : Hid (Blk v_24 b6 [.int .i64 ec]) := by rw [hw2]; exact G6.out.put [.int .i64 ec] rfl
          clear hw2
          refine hK.out _ _ (by (try dsimp only); first | exact ⟨F3.out, F4.out⟩ | go_keep) (fun hHeld => ?_)
          clear hK K
          try simp only [Act.put, List.getElem_toArray, List.getElem_cons_succ, List.getElem_cons_zero, List.setIfInBounds_toArray, List.set_cons_zero, List.set_cons_succ]
          refine wpAnyH_ready (rs := [8]) (by kernel_rfl) (by simp) ?_
          refine (AllReadyH.cons rfl (fun K hK => ?_) AllReadyH.nil)
          have k0 := G7.out.c 0 _ rfl
          have kf0 := G7.out.f 0 (by decide)
          go_simp
          obtain ⟨v_25, hw2⟩ : ∃ v_25, v_25 = putB v_24 b7 0 [.func (.func 93) #[.pointer (some ⟨pb, 0, none⟩)] #[]] := ⟨_, rfl⟩
          change K _ (putB v_24 b7 0 [.func (.func 93) #[.pointer (some ⟨pb, 0, none⟩)] #[]])
          rw [← hw2]
          clear k0 kf0
          have FP : Hid (Blk v_25 pb [.int .i64 h.fl, .int .i64 h.gp, .int .i64 h.ln, .int .i64 h.rf, .int .i64 h.sp, .int .i64 h.pu, .int .i64 h.br, .int .i64 h.dr, .int .i64 h.lv, .int .i64 h.dO, .int .i64 h.ld, .int .i64 h.qu, .int .i64 (massN r), .int .i64 0, .int .i64 s.i, .int .i64 s.o, .int .i64 s.l, .int .i64 c.pos, .int .i64 c.vel, .int .i64 c.door]) := by rw [hw2]; exact Blk.putB_other (by omega) _ 0 FP.out
          have F3 : Hid (Blk v_25 b3 [.pointer (some ⟨pb, 0, none⟩)]) := by rw [hw2]; exact Blk.putB_other (by omega) _ 0 F3.out
          have F4 : Hid (Blk v_25 b4 [.int .i64 x.push, .bool x.brk, .bool x.opn]) := by rw [hw2]; exact Blk.putB_other (by omega) _ 0 F4.out
          have FB : Hid (Below pb w v_25) := by rw [hw2]; exact below_putB FB.out (by omega) _ 0
          have G7 : Hid (Blk v_25 b7 [.func (.func 93) #[.pointer (some ⟨pb, 0, none⟩)] #[]]) := by rw [hw2]; exact G7.out.put [.func (.func 93) #[.pointer (some ⟨pb, 0, none⟩)] #[]] rfl
          have G6 : Hid (Blk v_25 b6 [.int .i64 ec]) := by rw [hw2]; exact Blk.putB_other (by omega) _ 0 G6.out
          clear hw2
          refine hK.out _ _ (by (try dsimp only); first | exact ⟨F3.out, F4.out⟩ | go_keep) (fun hHeld => ?_)
          clear hK K
          try simp only [Act.put, List.getElem_toArray, List.getElem_cons_succ, List.getElem_cons_zero, List.setIfInBounds_toArray, List.set_cons_zero, List.set_cons_succ]
          refine wpAnyH_done (by kernel_rfl) ?_ _
          go_wp2_with fail
          go_meet
          case rel => exact ⟨b6, b7, rfl, rfl, by omega, by omega, G6.out, G7.out, FP.out, F3.out, F4.out, FB.out⟩
        · go_simp
          obtain ⟨b6, hbb⟩ : ∃ b6, b6 = v_21.heap.size := ⟨_, rfl⟩
          obtain ⟨v_26, hw2⟩ : ∃ v_26, v_26 = v_21.alloc (.cells #[.int .i64 0] 2) := ⟨_, rfl⟩
          have nb6_0 := FP.out.lt
          rw [← hbb] at nb6_0
          have nb6_1 := F3.out.lt
          rw [← hbb] at nb6_1
          have nb6_2 := F4.out.lt
          rw [← hbb] at nb6_2
          have nb6_4 := G7.out.lt
          rw [← hbb] at nb6_4
          have G6 : Hid (Blk v_26 b6 [.int .i64 0]) := by rw [hw2]; exact Blk.at_ v_21 #[.int .i64 0] _ _ hbb
          have FP : Hid (Blk v_26 pb [.int .i64 h.fl, .int .i64 h.gp, .int .i64 h.ln, .int .i64 h.rf, .int .i64 h.sp, .int .i64 h.pu, .int .i64 h.br, .int .i64 h.dr, .int .i64 h.lv, .int .i64 h.dO, .int .i64 h.ld, .int .i64 h.qu, .int .i64 (massN r), .int .i64 0, .int .i64 s.i, .int .i64 s.o, .int .i64 s.l, .int .i64 c.pos, .int .i64 c.vel, .int .i64 c.door]) := by rw [hw2]; exact FP.out.alloc _
          have F3 : Hid (Blk v_26 b3 [.pointer (some ⟨pb, 0, none⟩)]) := by rw [hw2]; exact F3.out.alloc _
          have F4 : Hid (Blk v_26 b4 [.int .i64 x.push, .bool x.brk, .bool x.opn]) := by rw [hw2]; exact F4.out.alloc _
          have FB : Hid (Below pb w v_26) := by rw [hw2]; exact FB.out.alloc (Nat.le_of_lt (Nat.lt_of_lt_of_le lt0 FB.out.size)) _
          have G7 : Hid (Blk v_26 b7 [.nilFunc]) := by rw [hw2]; exact G7.out.alloc _
          rw [← hw2, ← hbb]
          clear hbb hw2
          refine hK.out _ _ (by (try dsimp only); first | exact ⟨F3.out, F4.out⟩ | go_keep) (fun hHeld => ?_)
          clear hK K
          try simp only [Act.put, List.getElem_toArray, List.getElem_cons_succ, List.getElem_cons_zero, List.setIfInBounds_toArray, List.set_cons_zero, List.set_cons_succ]
          refine wpAnyH_ready (rs := [4]) (by kernel_rfl) (by simp) ?_
          refine (AllReadyH.cons rfl (fun K hK => ?_) AllReadyH.nil)
          go_simp
          refine (CF _).mono ?_
          rintro e v_27 ⟨rfl, hb⟩
          have FP : Hid (Blk v_27 pb [.int .i64 h.fl, .int .i64 h.gp, .int .i64 h.ln, .int .i64 h.rf, .int .i64 h.sp, .int .i64 h.pu, .int .i64 h.br, .int .i64 h.dr, .int .i64 h.lv, .int .i64 h.dO, .int .i64 h.ld, .int .i64 h.qu, .int .i64 (massN r), .int .i64 0, .int .i64 s.i, .int .i64 s.o, .int .i64 s.l, .int .i64 c.pos, .int .i64 c.vel, .int .i64 c.door]) := FP.out.below hb FP.out.lt
          have F3 : Hid (Blk v_27 b3 [.pointer (some ⟨pb, 0, none⟩)]) := F3.out.below hb F3.out.lt
          have F4 : Hid (Blk v_27 b4 [.int .i64 x.push, .bool x.brk, .bool x.opn]) := F4.out.below hb F4.out.lt
          have FB : Hid (Below pb w v_27) := FB.out.trans (hb.mono (Nat.le_of_lt (Nat.lt_of_lt_of_le lt0 FB.out.size)))
          have G7 : Hid (Blk v_27 b7 [.nilFunc]) := G7.out.below hb G7.out.lt
          have G6 : Hid (Blk v_27 b6 [.int .i64 0]) := G6.out.below hb G6.out.lt
          clear hb
          try dsimp only
          refine hK.out _ _ (by (try dsimp only); first | exact ⟨F3.out, F4.out⟩ | go_keep) (fun hHeld => ?_)
          clear hK K
          try simp only [Act.put, List.getElem_toArray, List.getElem_cons_succ, List.getElem_cons_zero, List.setIfInBounds_toArray, List.set_cons_zero, List.set_cons_succ]
          refine wpAnyH_ready (rs := [7]) (by kernel_rfl) (by simp) ?_
          refine (AllReadyH.cons rfl (fun K hK => ?_) AllReadyH.nil)
          have k0 := G6.out.c 0 _ rfl
          have kf0 := G6.out.f 0 (by decide)
          go_simp
          obtain ⟨v_28, hw2⟩ : ∃ v_28, v_28 = putB v_27 b6 0 [.int .i64 ec] := ⟨_, rfl⟩
          change K _ (putB v_27 b6 0 [.int .i64 ec])
          rw [← hw2]
          clear k0 kf0
          have FP : Hid (Blk v_28 pb [.int .i64 h.fl, .int .i64 h.gp, .int .i64 h.ln, .int .i64 h.rf, .int .i64 h.sp, .int .i64 h.pu, .int .i64 h.br, .int .i64 h.dr, .int .i64 h.lv, .int .i64 h.dO, .int .i64 h.ld, .int .i64 h.qu, .int .i64 (massN r), .int .i64 0, .int .i64 s.i, .int .i64 s.o, .int .i64 s.l, .int .i64 c.pos, .int .i64 c.vel, .int .i64 c.door]) := by rw [hw2]; exact Blk.putB_other (by omega) _ 0 FP.out
          have F3 : Hid (Blk v_28 b3 [.pointer (some ⟨pb, 0, none⟩)]) := by rw [hw2]; exact Blk.putB_other (by omega) _ 0 F3.out
          have F4 : Hid (Blk v_28 b4 [.int .i64 x.push, .bool x.brk, .bool x.opn]) := by rw [hw2]; exact Blk.putB_other (by omega) _ 0 F4.out
          have FB : Hid (Below pb w v_28) := by rw [hw2]; exact below_putB FB.out (by omega) _ 0
          have G7 : Hid (Blk v_28 b7 [.nilFunc]) := by rw [hw2]; exact Blk.putB_other (by omega) _ 0 G7.out
          have G6 : Hid (Blk v_28 b6 [.int .i64 ec]) := by rw [hw2]; exact G6.out.put [.int .i64 ec] rfl
          clear hw2
          refine hK.out _ _ (by (try dsimp only); first | exact ⟨F3.out, F4.out⟩ | go_keep) (fun hHeld => ?_)
          clear hK K
          try simp only [Act.put, List.getElem_toArray, List.getElem_cons_succ, List.getElem_cons_zero, List.setIfInBounds_toArray, List.set_cons_zero, List.set_cons_succ]
          refine wpAnyH_ready (rs := [8]) (by kernel_rfl) (by simp) ?_
          refine (AllReadyH.cons rfl (fun K hK => ?_) AllReadyH.nil)
          have k0 := G7.out.c 0 _ rfl
          have kf0 := G7.out.f 0 (by decide)
          go_simp
          obtain ⟨v_29, hw2⟩ : ∃ v_29, v_29 = putB v_28 b7 0 [.func (.func 93) #[.pointer (some ⟨pb, 0, none⟩)] #[]] := ⟨_, rfl⟩
          change K _ (putB v_28 b7 0 [.func (.func 93) #[.pointer (some ⟨pb, 0, none⟩)] #[]])
          rw [← hw2]
          clear k0 kf0
          have FP : Hid (Blk v_29 pb [.int .i64 h.fl, .int .i64 h.gp, .int .i64 h.ln, .int .i64 h.rf, .int .i64 h.sp, .int .i64 h.pu, .int .i64 h.br, .int .i64 h.dr, .int .i64 h.lv, .int .i64 h.dO, .int .i64 h.ld, .int .i64 h.qu, .int .i64 (massN r), .int .i64 0, .int .i64 s.i, .int .i64 s.o, .int .i64 s.l, .int .i64 c.pos, .int .i64 c.vel, .int .i64 c.door]) := by rw [hw2]; exact Blk.putB_other (by omega) _ 0 FP.out
          have F3 : Hid (Blk v_29 b3 [.pointer (some ⟨pb, 0, none⟩)]) := by rw [hw2]; exact Blk.putB_other (by omega) _ 0 F3.out
          have F4 : Hid (Blk v_29 b4 [.int .i64 x.push, .bool x.brk, .bool x.opn]) := by rw [hw2]; exact Blk.putB_other (by omega) _ 0 F4.out
          have FB : Hid (Below pb w v_29) := by rw [hw2]; exact below_putB FB.out (by omega) _ 0
          have G7 : Hid (Blk v_29 b7 [.func (.func 93) #[.pointer (some ⟨pb, 0, none⟩)] #[]]) := by rw [hw2]; exact G7.out.put [.func (.func 93) #[.pointer (some ⟨pb, 0, none⟩)] #[]] rfl
          have G6 : Hid (Blk v_29 b6 [.int .i64 ec]) := by rw [hw2]; exact Blk.putB_other (by omega) _ 0 G6.out
          clear hw2
          refine hK.out _ _ (by (try dsimp only); first | exact ⟨F3.out, F4.out⟩ | go_keep) (fun hHeld => ?_)
          clear hK K
          try simp only [Act.put, List.getElem_toArray, List.getElem_cons_succ, List.getElem_cons_zero, List.setIfInBounds_toArray, List.set_cons_zero, List.set_cons_succ]
          refine wpAnyH_done (by kernel_rfl) ?_ _
          go_wp2_with fail
          go_meet
          case rel => exact ⟨b6, b7, rfl, rfl, by omega, by omega, G6.out, G7.out, FP.out, F3.out, F4.out, FB.out⟩
    · go_simp
      obtain ⟨b6, hbb⟩ : ∃ b6, b6 = v_1.heap.size := ⟨_, rfl⟩
      obtain ⟨v_30, hw2⟩ : ∃ v_30, v_30 = v_1.alloc (.cells #[.int .i64 0] 2) := ⟨_, rfl⟩
      have nb6_0 := FP.out.lt
      rw [← hbb] at nb6_0
      have nb6_1 := F3.out.lt
      rw [← hbb] at nb6_1
      have nb6_2 := F4.out.lt
      rw [← hbb] at nb6_2
      have G6 : Hid (Blk v_30 b6 [.int .i64 0]) := by rw [hw2]; exact Blk.at_ v_1 #[.int .i64 0] _ _ hbb
      have FP : Hid (Blk v_30 pb [.int .i64 h.fl, .int .i64 h.gp, .int .i64 h.ln, .int .i64 h.rf, .int .i64 h.sp, .int .i64 h.pu, .int .i64 h.br, .int .i64 h.dr, .int .i64 h.lv, .int .i64 h.dO, .int .i64 h.ld, .int .i64 h.qu, .int .i64 (massN r), .int .i64 0, .int .i64 s.i, .int .i64 s.o, .int .i64 s.l, .int .i64 c.pos, .int .i64 c.vel, .int .i64 c.door]) := by rw [hw2]; exact FP.out.alloc _
      have F3 : Hid (Blk v_30 b3 [.pointer (some ⟨pb, 0, none⟩)]) := by rw [hw2]; exact F3.out.alloc _
      have F4 : Hid (Blk v_30 b4 [.int .i64 x.push, .bool x.brk, .bool x.opn]) := by rw [hw2]; exact F4.out.alloc _
      have FB : Hid (Below pb w v_30) := by rw [hw2]; exact FB.out.alloc (Nat.le_of_lt (Nat.lt_of_lt_of_le lt0 FB.out.size)) _
      rw [← hw2, ← hbb]
      clear hbb hw2
      refine hK.out _ _ (by (try dsimp only); first | exact ⟨F3.out, F4.out⟩ | go_keep) (fun hHeld => ?_)
      clear hK K
      try simp only [Act.put, List.getElem_toArray, List.getElem_cons_succ, List.getElem_cons_zero, List.setIfInBounds_toArray, List.set_cons_zero, List.set_cons_succ]
      refine wpAnyH_ready (rs := [1, 6]) (by kernel_rfl) (by simp) ?_
      refine (AllReadyH.cons rfl (fun K hK => ?_) (AllReadyH.cons rfl (fun K hK => ?_) AllReadyH.nil))
      · go_simp
        refine (CE _ FP.out).mono ?_
        rintro e v_31 ⟨rfl, hb⟩
        have FP : Hid (Blk v_31 pb [.int .i64 h.fl, .int .i64 h.gp, .int .i64 h.ln, .int .i64 h.rf, .int .i64 h.sp, .int .i64 h.pu, .int .i64 h.br, .int .i64 h.dr, .int .i64 h.lv, .int .i64 h.dO, .int .i64 h.ld, .int .i64 h.qu, .int .i64 (massN r), .int .i64 0, .int .i64 s.i, .int .i64 s.o, .int .i64 s.l, .int .i64 c.pos, .int .i64 c.vel, .int .i64 c.door]) := FP.out.below hb FP.out.lt
        have F3 : Hid (Blk v_31 b3 [.pointer (some ⟨pb, 0, none⟩)]) := F3.out.below hb F3.out.lt
        have F4 : Hid (Blk v_31 b4 [.int .i64 x.push, .bool x.brk, .bool x.opn]) := F4.out.below hb F4.out.lt
        have FB : Hid (Below pb w v_31) := FB.out.trans (hb.mono (Nat.le_of_lt (Nat.lt_of_lt_of_le lt0 FB.out.size)))
        have G6 : Hid (Blk v_31 b6 [.int .i64 0]) := G6.out.below hb G6.out.lt
        clear hb
        try dsimp only
        refine hK.out _ _ (by (try dsimp only); first | exact ⟨F3.out, F4.out⟩ | go_keep) (fun hHeld => ?_)
        clear hK K
        try simp only [Act.put, List.getElem_toArray, List.getElem_cons_succ, List.getElem_cons_zero, List.setIfInBounds_toArray, List.set_cons_zero, List.set_cons_succ]
        refine wpAnyH_ready (rs := [4, 6]) (by kernel_rfl) (by simp) ?_
        refine (AllReadyH.cons rfl (fun K hK => ?_) (AllReadyH.cons rfl (fun K hK => ?_) AllReadyH.nil))
        · go_simp
          refine (CF _).mono ?_
          rintro e v_32 ⟨rfl, hb⟩
          have FP : Hid (Blk v_32 pb [.int .i64 h.fl, .int .i64 h.gp, .int .i64 h.ln, .int .i64 h.rf, .int .i64 h.sp, .int .i64 h.pu, .int .i64 h.br, .int .i64 h.dr, .int .i64 h.lv, .int .i64 h.dO, .int .i64 h.ld, .int .i64 h.qu, .int .i64 (massN r), .int .i64 0, .int .i64 s.i, .int .i64 s.o, .int .i64 s.l, .int .i64 c.pos, .int .i64 c.vel, .int .i64 c.door]) := FP.out.below hb FP.out.lt
          have F3 : Hid (Blk v_32 b3 [.pointer (some ⟨pb, 0, none⟩)]) := F3.out.below hb F3.out.lt
          have F4 : Hid (Blk v_32 b4 [.int .i64 x.push, .bool x.brk, .bool x.opn]) := F4.out.below hb F4.out.lt
          have FB : Hid (Below pb w v_32) := FB.out.trans (hb.mono (Nat.le_of_lt (Nat.lt_of_lt_of_le lt0 FB.out.size)))
          have G6 : Hid (Blk v_32 b6 [.int .i64 0]) := G6.out.below hb G6.out.lt
          clear hb
          try dsimp only
          refine hK.out _ _ (by (try dsimp only); first | exact ⟨F3.out, F4.out⟩ | go_keep) (fun hHeld => ?_)
          clear hK K
          try simp only [Act.put, List.getElem_toArray, List.getElem_cons_succ, List.getElem_cons_zero, List.setIfInBounds_toArray, List.set_cons_zero, List.set_cons_succ]
          refine wpAnyH_ready (rs := [6]) (by kernel_rfl) (by simp) ?_
          refine (AllReadyH.cons rfl (fun K hK => ?_) AllReadyH.nil)
          go_simp
          obtain ⟨b7, hbb⟩ : ∃ b7, b7 = v_32.heap.size := ⟨_, rfl⟩
          obtain ⟨v_33, hw2⟩ : ∃ v_33, v_33 = v_32.alloc (.cells #[.nilFunc] 82) := ⟨_, rfl⟩
          have nb7_0 := FP.out.lt
          rw [← hbb] at nb7_0
          have nb7_1 := F3.out.lt
          rw [← hbb] at nb7_1
          have nb7_2 := F4.out.lt
          rw [← hbb] at nb7_2
          have nb7_4 := G6.out.lt
          rw [← hbb] at nb7_4
          have G7 : Hid (Blk v_33 b7 [.nilFunc]) := by rw [hw2]; exact Blk.at_ v_32 #[.nilFunc] _ _ hbb
          have FP : Hid (Blk v_33 pb [.int .i64 h.fl, .int .i64 h.gp, .int .i64 h.ln, .int .i64 h.rf, .int .i64 h.sp, .int .i64 h.pu, .int .i64 h.br, .int .i64 h.dr, .int .i64 h.lv, .int .i64 h.dO, .int .i64 h.ld, .int .i64 h.qu, .int .i64 (massN r), .int .i64 0, .int .i64 s.i, .int .i64 s.o, .int .i64 s.l, .int .i64 c.pos, .int .i64 c.vel, .int .i64 c.door]) := by rw [hw2]; exact FP.out.alloc _
          have F3 : Hid (Blk v_33 b3 [.pointer (some ⟨pb, 0, none⟩)]) := by rw [hw2]; exact F3.out.alloc _
          have F4 : Hid (Blk v_33 b4 [.int .i64 x.push, .bool x.brk, .bool x.opn]) := by rw [hw2]; exact F4.out.alloc _
          have FB : Hid (Below pb w v_33) := by rw [hw2]; exact FB.out.alloc (Nat.le_of_lt (Nat.lt_of_lt_of_le lt0 FB.out.size)) _
          have G6 : Hid (Blk v_33 b6 [.int .i64 0]) := by rw [hw2]; exact G6.out.alloc _
          rw [← hw2, ← hbb]
          clear hbb hw2
          refine hK.out _ _ (by (try dsimp only); first | exact ⟨F3.out, F4.out⟩ | go_keep) (fun hHeld => ?_)
          clear hK K
          try simp only [Act.put, List.getElem_toArray, List.getElem_cons_succ, List.getElem_cons_zero, List.setIfInBounds_toArray, List.set_cons_zero, List.set_cons_succ]
          refine wpAnyH_ready (rs := [7]) (by kernel_rfl) (by simp) ?_
          refine (AllReadyH.cons rfl (fun K hK => ?_) AllReadyH.nil)
          have k0 := G6.out.c 0 _ rfl
          have kf0 := G6.out.f 0 (by decide)
          go_simp
          obtain ⟨v_34, hw2⟩ : ∃ v_34, v_34 = putB v_33 b6 0 [.int .i64 ec] := ⟨_, rfl⟩
          change K _ (putB v_33 b6 0 [.int .i64 ec])
          rw [← hw2]
          clear k0 kf0
          have FP : Hid (Blk v_34 pb [.int .i64 h.fl, .int .i64 h.gp, .int .i64 h.ln, .int .i64 h.rf, .int .i64 h.sp, .int .i64 h.pu, .int .i64 h.br, .int .i64 h.dr, .int .i64 h.lv, .int .i64 h.dO, .int .i64 h.ld, .int .i64 h.qu, .int .i64 (massN r), .int .i64 0, .int .i64 s.i, .int .i64 s.o, .int .i64 s.l, .int .i64 c.pos, .int .i64 c.vel, .int .i64 c.door]) := by rw [hw2]; exact Blk.putB_other (by omega) _ 0 FP.out
          have F3 : Hid (Blk v_34 b3 [.pointer (some ⟨pb, 0, none⟩)]) := by rw [hw2]; exact Blk.putB_other (by omega) _ 0 F3.out
          have F4 : Hid (Blk v_34 b4 [.int .i64 x.push, .bool x.brk, .bool x.opn]) := by rw [hw2]; exact Blk.putB_other (by omega) _ 0 F4.out
          have FB : Hid (Below pb w v_34) := by rw [hw2]; exact below_putB FB.out (by omega) _ 0
          have G6 : Hid (Blk v_34 b6 [.int .i64 ec]) := by rw [hw2]; exact G6.out.put [.int .i64 ec] rfl
          have G7 : Hid (Blk v_34 b7 [.nilFunc]) := by rw [hw2]; exact Blk.putB_other (by omega) _ 0 G7.out
          clear hw2
          refine hK.out _ _ (by (try dsimp only); first | exact ⟨F3.out, F4.out⟩ | go_keep) (fun hHeld => ?_)
          clear hK K
          try simp only [Act.put, List.getElem_toArray, List.getElem_cons_succ, List.getElem_cons_zero, List.setIfInBounds_toArray, List.set_cons_zero, List.set_cons_succ]
          refine wpAnyH_ready (rs := [8]) (by kernel_rfl) (by simp) ?_
          refine (AllReadyH.cons rfl (fun K hK => ?_) AllReadyH.nil)
          have k0 := G7.out.c 0 _ rfl
          have kf0 := G7.out.f 0 (by decide)
          go_simp
          obtain ⟨v_35, hw2⟩ : ∃ v_35, v_35 = putB v_34 b7 0 [.func (.func 93) #[.pointer (some ⟨pb, 0, none⟩)] #[]] := ⟨_, rfl⟩
          change K _ (putB v_34 b7 0 [.func (.func 93) #[.pointer (some ⟨pb, 0, none⟩)] #[]])
          rw [← hw2]
          clear k0 kf0
          have FP : Hid (Blk v_35 pb [.int .i64 h.fl, .int .i64 h.gp, .int .i64 h.ln, .int .i64 h.rf, .int .i64 h.sp, .int .i64 h.pu, .int .i64 h.br, .int .i64 h.dr, .int .i64 h.lv, .int .i64 h.dO, .int .i64 h.ld, .int .i64 h.qu, .int .i64 (massN r), .int .i64 0, .int .i64 s.i, .int .i64 s.o, .int .i64 s.l, .int .i64 c.pos, .int .i64 c.vel, .int .i64 c.door]) := by rw [hw2]; exact Blk.putB_other (by omega) _ 0 FP.out
          have F3 : Hid (Blk v_35 b3 [.pointer (some ⟨pb, 0, none⟩)]) := by rw [hw2]; exact Blk.putB_other (by omega) _ 0 F3.out
          have F4 : Hid (Blk v_35 b4 [.int .i64 x.push, .bool x.brk, .bool x.opn]) := by rw [hw2]; exact Blk.putB_other (by omega) _ 0 F4.out
          have FB : Hid (Below pb w v_35) := by rw [hw2]; exact below_putB FB.out (by omega) _ 0
          have G6 : Hid (Blk v_35 b6 [.int .i64 ec]) := by rw [hw2]; exact Blk.putB_other (by omega) _ 0 G6.out
          have G7 : Hid (Blk v_35 b7 [.func (.func 93) #[.pointer (some ⟨pb, 0, none⟩)] #[]]) := by rw [hw2]; exact G7.out.put [.func (.func 93) #[.pointer (some ⟨pb, 0, none⟩)] #[]] rfl
          clear hw2
          refine hK.out _ _ (by (try dsimp only); first | exact ⟨F3.out, F4.out⟩ | go_keep) (fun hHeld => ?_)
          clear hK K
          try simp only [Act.put, List.getElem_toArray, List.getElem_cons_succ, List.getElem_cons_zero, List.setIfInBounds_toArray, List.set_cons_zero, List.set_cons_succ]
          refine wpAnyH_done (by kernel_rfl) ?_ _
          go_wp2_with fail
          go_meet
          case rel => exact ⟨b6, b7, rfl, rfl, by omega, by omega, G6.out, G7.out, FP.out, F3.out, F4.out, FB.out⟩
        · go_simp
          obtain ⟨b7, hbb⟩ : ∃ b7, b7 = v_31.heap.size := ⟨_, rfl⟩
          obtain ⟨v_36, hw2⟩ : ∃ v_36, v_36 = v_31.alloc (.cells #[.nilFunc] 82) := ⟨_, rfl⟩
          have nb7_0 := FP.out.lt
          rw [← hbb] at nb7_0
          have nb7_1 := F3.out.lt
          rw [← hbb] at nb7_1
          have nb7_2 := F4.out.lt
          rw [← hbb] at nb7_2
          have nb7_4 := G6.out.lt
          rw [← hbb] at nb7_4
          have G7 : Hid (Blk v_36 b7 [.nilFunc]) := by rw [hw2]; exact Blk.at_ v_31 #[.nilFunc] _ _ hbb
          have FP : Hid (Blk v_36 pb [.int .i64 h.fl, .int .i64 h.gp, .int .i64 h.ln, .int .i64 h.rf, .int .i64 h.sp, .int .i64 h.pu, .int .i64 h.br, .int .i64 h.dr, .int .i64 h.lv, .int .i64 h.dO, .int .i64 h.ld, .int .i64 h.qu, .int .i64 (massN r), .int .i64 0, .int .i64 s.i, .int .i64 s.o, .int .i64 s.l, .int .i64 c.pos, .int .i64 c.vel, .int .i64 c.door]) := by rw [hw2]; exact FP.out.alloc _
          have F3 : Hid (Blk v_36 b3 [.pointer (some ⟨pb, 0, none⟩)]) := by rw [hw2]; exact F3.out.alloc _
          have F4 : Hid (Blk v_36 b4 [.int .i64 x.push, .bool x.brk, .bool x.opn]) := by rw [hw2]; exact F4.out.alloc _
          have FB : Hid (Below pb w v_36) := by rw [hw2]; exact FB.out.alloc (Nat.le_of_lt (Nat.lt_of_lt_of_le lt0 FB.out.size)) _
          have G6 : Hid (Blk v_36 b6 [.int .i64 0]) := by rw [hw2]; exact G6.out.alloc _
          rw [← hw2, ← hbb]
          clear hbb hw2
          refine hK.out _ _ (by (try dsimp only); first | exact ⟨F3.out, F4.out⟩ | go_keep) (fun hHeld => ?_)
          clear hK K
          try simp only [Act.put, List.getElem_toArray, List.getElem_cons_succ, List.getElem_cons_zero, List.setIfInBounds_toArray, List.set_cons_zero, List.set_cons_succ]
          refine wpAnyH_ready (rs := [4]) (by kernel_rfl) (by simp) ?_
          refine (AllReadyH.cons rfl (fun K hK => ?_) AllReadyH.nil)
          go_simp
          refine (CF _).mono ?_
          rintro e v_37 ⟨rfl, hb⟩
          have FP : Hid (Blk v_37 pb [.int .i64 h.fl, .int .i64 h.gp, .int .i64 h.ln, .int .i64 h.rf, .int .i64 h.sp, .int .i64 h.pu, .int .i64 h.br, .int .i64 h.dr, .int .i64 h.lv, .int .i64 h.dO, .int .i64 h.ld, .int .i64 h.qu, .int .i64 (massN r), .int .i64 0, .int .i64 s.i, .int .i64 s.o, .int .i64 s.l, .int .i64 c.pos, .int .i64 c.vel, .int .i64 c.door]) := FP.out.below hb FP.out.lt
          have F3 : Hid (Blk v_37 b3 [.pointer (some ⟨pb, 0, none⟩)]) := F3.out.below hb F3.out.lt
          have F4 : Hid (Blk v_37 b4 [.int .i64 x.push, .bool x.brk, .bool x.opn]) := F4.out.below hb F4.out.lt
          have FB : Hid (Below pb w v_37) := FB.out.trans (hb.mono (Nat.le_of_lt (Nat.lt_of_lt_of_le lt0 FB.out.size)))
          have G6 : Hid (Blk v_37 b6 [.int .i64 0]) := G6.out.below hb G6.out.lt
          have G7 : Hid (Blk v_37 b7 [.nilFunc]) := G7.out.below hb G7.out.lt
          clear hb
          try dsimp only
          refine hK.out _ _ (by (try dsimp only); first | exact ⟨F3.out, F4.out⟩ | go_keep) (fun hHeld => ?_)
          clear hK K
          try simp only [Act.put, List.getElem_toArray, List.getElem_cons_succ, List.getElem_cons_zero, List.setIfInBounds_toArray, List.set_cons_zero, List.set_cons_succ]
          refine wpAnyH_ready (rs := [7]) (by kernel_rfl) (by simp) ?_
          refine (AllReadyH.cons rfl (fun K hK => ?_) AllReadyH.nil)
          have k0 := G6.out.c 0 _ rfl
          have kf0 := G6.out.f 0 (by decide)
          go_simp
          obtain ⟨v_38, hw2⟩ : ∃ v_38, v_38 = putB v_37 b6 0 [.int .i64 ec] := ⟨_, rfl⟩
          change K _ (putB v_37 b6 0 [.int .i64 ec])
          rw [← hw2]
          clear k0 kf0
          have FP : Hid (Blk v_38 pb [.int .i64 h.fl, .int .i64 h.gp, .int .i64 h.ln, .int .i64 h.rf, .int .i64 h.sp, .int .i64 h.pu, .int .i64 h.br, .int .i64 h.dr, .int .i64 h.lv, .int .i64 h.dO, .int .i64 h.ld, .int .i64 h.qu, .int .i64 (massN r), .int .i64 0, .int .i64 s.i, .int .i64 s.o, .int .i64 s.l, .int .i64 c.pos, .int .i64 c.vel, .int .i64 c.door]) := by rw [hw2]; exact Blk.putB_other (by omega) _ 0 FP.out
          have F3 : Hid (Blk v_38 b3 [.pointer (some ⟨pb, 0, none⟩)]) := by rw [hw2]; exact Blk.putB_other (by omega) _ 0 F3.out
          have F4 : Hid (Blk v_38 b4 [.int .i64 x.push, .bool x.brk, .bool x.opn]) := by rw [hw2]; exact Blk.putB_other (by omega) _ 0 F4.out
          have FB : Hid (Below pb w v_38) := by rw [hw2]; exact below_putB FB.out (by omega) _ 0
          have G6 : Hid (Blk v_38 b6 [.int .i64 ec]) := by rw [hw2]; exact G6.out.put [.int .i64 ec] rfl
          have G7 : Hid (Blk v_38 b7 [.nilFunc]) := by rw [hw2]; exact Blk.putB_other (by omega) _ 0 G7.out
          clear hw2
          refine hK.out _ _ (by (try dsimp only); first | exact ⟨F3.out, F4.out⟩ | go_keep) (fun hHeld => ?_)
          clear hK K
          try simp only [Act.put, List.getElem_toArray, List.getElem_cons_succ, List.getElem_cons_zero, List.setIfInBounds_toArray, List.set_cons_zero, List.set_cons_succ]
          refine wpAnyH_ready (rs := [8]) (by kernel_rfl) (by simp) ?_
          refine (AllReadyH.cons rfl (fun K hK => ?_) AllReadyH.nil)
          have k0 := G7.out.c 0 _ rfl
          have kf0 := G7.out.f 0 (by decide)
          go_simp
          obtain ⟨v_39, hw2⟩ : ∃ v_39, v_39 = putB v_38 b7 0 [.func (.func 93) #[.pointer (some ⟨pb, 0, none⟩)] #[]] := ⟨_, rfl⟩
          change K _ (putB v_38 b7 0 [.func (.func 93) #[.pointer (some ⟨pb, 0, none⟩)] #[]])
          rw [← hw2]
          clear k0 kf0
          have FP : Hid (Blk v_39 pb [.int .i64 h.fl, .int .i64 h.gp, .int .i64 h.ln, .int .i64 h.rf, .int .i64 h.sp, .int .i64 h.pu, .int .i64 h.br, .int .i64 h.dr, .int .i64 h.lv, .int .i64 h.dO, .int .i64 h.ld, .int .i64 h.qu, .int .i64 (massN r), .int .i64 0, .int .i64 s.i, .int .i64 s.o, .int .i64 s.l, .int .i64 c.pos, .int .i64 c.vel, .int .i64 c.door]) := by rw [hw2]; exact Blk.putB_other (by omega) _ 0 FP.out
          have F3 : Hid (Blk v_39 b3 [.pointer (some ⟨pb, 0, none⟩)]) := by rw [hw2]; exact Blk.putB_other (by omega) _ 0 F3.out
          have F4 : Hid (Blk v_39 b4 [.int .i64 x.push, .bool x.brk, .bool x.opn]) := by rw [hw2]; exact Blk.putB_other (by omega) _ 0 F4.out
          have FB : Hid (Below pb w v_39) := by rw [hw2]; exact below_putB FB.out (by omega) _ 0
          have G6 : Hid (Blk v_39 b6 [.int .i64 ec]) := by rw [hw2]; exact Blk.putB_other (by omega) _ 0 G6.out
          have G7 : Hid (Blk v_39 b7 [.func (.func 93) #[.pointer (some ⟨pb, 0, none⟩)] #[]]) := by rw [hw2]; exact G7.out.put [.func (.func 93) #[.pointer (some ⟨pb, 0, none⟩)] #[]] rfl
          clear hw2
          refine hK.out _ _ (by (try dsimp only); first | exact ⟨F3.out, F4.out⟩ | go_keep) (fun hHeld => ?_)
          clear hK K
          try simp only [Act.put, List.getElem_toArray, List.getElem_cons_succ, List.getElem_cons_zero, List.setIfInBounds_toArray, List.set_cons_zero, List.set_cons_succ]
          refine wpAnyH_done (by kernel_rfl) ?_ _
          go_wp2_with fail
          go_meet
          case rel => exact ⟨b6, b7, rfl, rfl, by omega, by omega, G6.out, G7.out, FP.out, F3.out, F4.out, FB.out⟩
      · go_simp
        obtain ⟨b7, hbb⟩ : ∃ b7, b7 = v_30.heap.size := ⟨_, rfl⟩
        obtain ⟨v_40, hw2⟩ : ∃ v_40, v_40 = v_30.alloc (.cells #[.nilFunc] 82) := ⟨_, rfl⟩
        have nb7_0 := FP.out.lt
        rw [← hbb] at nb7_0
        have nb7_1 := F3.out.lt
        rw [← hbb] at nb7_1
        have nb7_2 := F4.out.lt
        rw [← hbb] at nb7_2
        have nb7_4 := G6.out.lt
        rw [← hbb] at nb7_4
        have G7 : Hid (Blk v_40 b7 [.nilFunc]) := by rw [hw2]; exact Blk.at_ v_30 #[.nilFunc] _ _ hbb
        have FP : Hid (Blk v_40 pb [.int .i64 h.fl, .int .i64 h.gp, .int .i64 h.ln, .int .i64 h.rf, .int .i64 h.sp, .int .i64 h.pu, .int .i64 h.br, .int .i64 h.dr, .int .i64 h.lv, .int .i64 h.dO, .int .i64 h.ld, .int .i64 h.qu, .int .i64 (massN r), .int .i64 0, .int .i64 s.i, .int .i64 s.o, .int .i64 s.l, .int .i64 c.pos, .int .i64 c.vel, .int .i64 c.door]) := by rw [hw2]; exact FP.out.alloc _
        have F3 : Hid (Blk v_40 b3 [.pointer (some ⟨pb, 0, none⟩)]) := by rw [hw2]; exact F3.out.alloc _
        have F4 : Hid (Blk v_40 b4 [.int .i64 x.push, .bool x.brk, .bool x.opn]) := by rw [hw2]; exact F4.out.alloc _
        have FB : Hid (Below pb w v_40) := by rw [hw2]; exact FB.out.alloc (Nat.le_of_lt (Nat.lt_of_lt_of_le lt0 FB.out.size)) _
        have G6 : Hid (Blk v_40 b6 [.int .i64 0]) := by rw [hw2]; exact G6.out.alloc _
        rw [← hw2, ← hbb]
        clear hbb hw2
        refine hK.out _ _ (by (try dsimp only); first | exact ⟨F3.out, F4.out⟩ | go_keep) (fun hHeld => ?_)
        clear hK K
        try simp only [Act.put, List.getElem_toArray, List.getElem_cons_succ, List.getElem_cons_zero, List.setIfInBounds_toArray, List.set_cons_zero, List.set_cons_succ]
        refine wpAnyH_ready (rs := [1]) (by kernel_rfl) (by simp) ?_
        refine (AllReadyH.cons rfl (fun K hK => ?_) AllReadyH.nil)
        go_simp
        refine (CE _ FP.out).mono ?_
        rintro e v_41 ⟨rfl, hb⟩
        have FP : Hid (Blk v_41 pb [.int .i64 h.fl, .int .i64 h.gp, .int .i64 h.ln, .int .i64 h.rf, .int .i64 h.sp, .int .i64 h.pu, .int .i64 h.br, .int .i64 h.dr, .int .i64 h.lv, .int .i64 h.dO, .int .i64 h.ld, .int .i64 h.qu, .int .i64 (massN r), .int .i64 0, .int .i64 s.i, .int .i64 s.o, .int .i64 s.l, .int .i64 c.pos, .int .i64 c.vel, .int .i64 c.door]) := FP.out.below hb FP.out.lt
        have F3 : Hid (Blk v_41 b3 [.pointer (some ⟨pb, 0, none⟩)]) := F3.out.below hb F3.out.lt
        have F4 : Hid (Blk v_41 b4 [.int .i64 x.push, .bool x.brk, .bool x.opn]) := F4.out.below hb F4.out.lt
        have FB : Hid (Below pb w v_41) := FB.out.trans (hb.mono (Nat.le_of_lt (Nat.lt_of_lt_of_le lt0 FB.out.size)))
        have G6 : Hid (Blk v_41 b6 [.int .i64 0]) := G6.out.below hb G6.out.lt
        have G7 : Hid (Blk v_41 b7 [.nilFunc]) := G7.out.below hb G7.out.lt
        clear hb
        try dsimp only
        refine hK.out _ _ (by (try dsimp only); first | exact ⟨F3.out, F4.out⟩ | go_keep) (fun hHeld => ?_)
        clear hK K
        try simp only [Act.put, List.getElem_toArray, List.getElem_cons_succ, List.getElem_cons_zero, List.setIfInBounds_toArray, List.set_cons_zero, List.set_cons_succ]
        refine wpAnyH_ready (rs := [4]) (by kernel_rfl) (by simp) ?_
        refine (AllReadyH.cons rfl (fun K hK => ?_) AllReadyH.nil)
        go_simp
        refine (CF _).mono ?_
        rintro e v_42 ⟨rfl, hb⟩
        have FP : Hid (Blk v_42 pb [.int .i64 h.fl, .int .i64 h.gp, .int .i64 h.ln, .int .i64 h.rf, .int .i64 h.sp, .int .i64 h.pu, .int .i64 h.br, .int .i64 h.dr, .int .i64 h.lv, .int .i64 h.dO, .int .i64 h.ld, .int .i64 h.qu, .int .i64 (massN r), .int .i64 0, .int .i64 s.i, .int .i64 s.o, .int .i64 s.l, .int .i64 c.pos, .int .i64 c.vel, .int .i64 c.door]) := FP.out.below hb FP.out.lt
        have F3 : Hid (Blk v_42 b3 [.pointer (some ⟨pb, 0, none⟩)]) := F3.out.below hb F3.out.lt
        have F4 : Hid (Blk v_42 b4 [.int .i64 x.push, .bool x.brk, .bool x.opn]) := F4.out.below hb F4.out.lt
        have FB : Hid (Below pb w v_42) := FB.out.trans (hb.mono (Nat.le_of_lt (Nat.lt_of_lt_of_le lt0 FB.out.size)))
        have G6 : Hid (Blk v_42 b6 [.int .i64 0]) := G6.out.below hb G6.out.lt
        have G7 : Hid (Blk v_42 b7 [.nilFunc]) := G7.out.below hb G7.out.lt
        clear hb
        try dsimp only
        refine hK.out _ _ (by (try dsimp only); first | exact ⟨F3.out, F4.out⟩ | go_keep) (fun hHeld => ?_)
        clear hK K
        try simp only [Act.put, List.getElem_toArray, List.getElem_cons_succ, List.getElem_cons_zero, List.setIfInBounds_toArray, List.set_cons_zero, List.set_cons_succ]
        refine wpAnyH_ready (rs := [7]) (by kernel_rfl) (by simp) ?_
        refine (AllReadyH.cons rfl (fun K hK => ?_) AllReadyH.nil)
        have k0 := G6.out.c 0 _ rfl
        have kf0 := G6.out.f 0 (by decide)
        go_simp
        obtain ⟨v_43, hw2⟩ : ∃ v_43, v_43 = putB v_42 b6 0 [.int .i64 ec] := ⟨_, rfl⟩
        change K _ (putB v_42 b6 0 [.int .i64 ec])
        rw [← hw2]
        clear k0 kf0
        have FP : Hid (Blk v_43 pb [.int .i64 h.fl, .int .i64 h.gp, .int .i64 h.ln, .int .i64 h.rf, .int .i64 h.sp, .int .i64 h.pu, .int .i64 h.br, .int .i64 h.dr, .int .i64 h.lv, .int .i64 h.dO, .int .i64 h.ld, .int .i64 h.qu, .int .i64 (massN r), .int .i64 0, .int .i64 s.i, .int .i64 s.o, .int .i64 s.l, .int .i64 c.pos, .int .i64 c.vel, .int .i64 c.door]) := by rw [hw2]; exact Blk.putB_other (by omega) _ 0 FP.out
        have F3 : Hid (Blk v_43 b3 [.pointer (some ⟨pb, 0, none⟩)]) := by rw [hw2]; exact Blk.putB_other (by omega) _ 0 F3.out
        have F4 : Hid (Blk v_43 b4 [.int .i64 x.push, .bool x.brk, .bool x.opn]) := by rw [hw2]; exact Blk.putB_other (by omega) _ 0 F4.out
        have FB : Hid (Below pb w v_43) := by rw [hw2]; exact below_putB FB.out (by omega) _ 0
        have G6 : Hid (Blk v_43 b6 [.int .i64 ec]) := by rw [hw2]; exact G6.out.put [.int .i64 ec] rfl
        have G7 : Hid (Blk v_43 b7 [.nilFunc]) := by rw [hw2]; exact Blk.putB_other (by omega) _ 0 G7.out
        clear hw2
        refine hK.out _ _ (by (try dsimp only); first | exact ⟨F3.out, F4.out⟩ | go_keep) (fun hHeld => ?_)
        clear hK K
        try simp only [Act.put, List.getElem_toArray, List.getElem_cons_succ, List.getElem_cons_zero, List.setIfInBounds_toArray, List.set_cons_zero, List.set_cons_succ]
        refine wpAnyH_ready (rs := [8]) (by kernel_rfl) (by simp) ?_
        refine (AllReadyH.cons rfl (fun K hK => ?_) AllReadyH.nil)
        have k0 := G7.out.c 0 _ rfl
        have kf0 := G7.out.f 0 (by decide)
        go_simp
        obtain ⟨v_44, hw2⟩ : ∃ v_44, v_44 = putB v_43 b7 0 [.func (.func 93) #[.pointer (some ⟨pb, 0, none⟩)] #[]] := ⟨_, rfl⟩
        change K _ (putB v_43 b7 0 [.func (.func 93) #[.pointer (some ⟨pb, 0, none⟩)] #[]])
        rw [← hw2]
        clear k0 kf0
        have FP : Hid (Blk v_44 pb [.int .i64 h.fl, .int .i64 h.gp, .int .i64 h.ln, .int .i64 h.rf, .int .i64 h.sp, .int .i64 h.pu, .int .i64 h.br, .int .i64 h.dr, .int .i64 h.lv, .int .i64 h.dO, .int .i64 h.ld, .int .i64 h.qu, .int .i64 (massN r), .int .i64 0, .int .i64 s.i, .int .i64 s.o, .int .i64 s.l, .int .i64 c.pos, .int .i64 c.vel, .int .i64 c.door]) := by rw [hw2]; exact Blk.putB_other (by omega) _ 0 FP.out
        have F3 : Hid (Blk v_44 b3 [.pointer (some ⟨pb, 0, none⟩)]) := by rw [hw2]; exact Blk.putB_other (by omega) _ 0 F3.out
        have F4 : Hid (Blk v_44 b4 [.int .i64 x.push, .bool x.brk, .bool x.opn]) := by rw [hw2]; exact Blk.putB_other (by omega) _ 0 F4.out
        have FB : Hid (Below pb w v_44) := by rw [hw2]; exact below_putB FB.out (by omega) _ 0
        have G6 : Hid (Blk v_44 b6 [.int .i64 ec]) := by rw [hw2]; exact Blk.putB_other (by omega) _ 0 G6.out
        have G7 : Hid (Blk v_44 b7 [.func (.func 93) #[.pointer (some ⟨pb, 0, none⟩)] #[]]) := by rw [hw2]; exact G7.out.put [.func (.func 93) #[.pointer (some ⟨pb, 0, none⟩)] #[]] rfl
        clear hw2
        refine hK.out _ _ (by (try dsimp only); first | exact ⟨F3.out, F4.out⟩ | go_keep) (fun hHeld => ?_)
        clear hK K
        try simp only [Act.put, List.getElem_toArray, List.getElem_cons_succ, List.getElem_cons_zero, List.setIfInBounds_toArray, List.set_cons_zero, List.set_cons_succ]
        refine wpAnyH_done (by kernel_rfl) ?_ _
        go_wp2_with fail
        go_meet
        case rel => exact ⟨b6, b7, rfl, rfl, by omega, by omega, G6.out, G7.out, FP.out, F3.out, F4.out, FB.out⟩
    · go_simp
      obtain ⟨b7, hbb⟩ : ∃ b7, b7 = v_1.heap.size := ⟨_, rfl⟩
      obtain ⟨v_45, hw2⟩ : ∃ v_45, v_45 = v_1.alloc (.cells #[.nilFunc] 82) := ⟨_, rfl⟩
      have nb7_0 := FP.out.lt
      rw [← hbb] at nb7_0
      have nb7_1 := F3.out.lt
      rw [← hbb] at nb7_1
      have nb7_2 := F4.out.lt
      rw [← hbb] at nb7_2
      have G7 : Hid (Blk v_45 b7 [.nilFunc]) := by rw [hw2]; exact Blk.at_ v_1 #[.nilFunc] _ _ hbb
      have FP : Hid (Blk v_45 pb [.int .i64 h.fl, .int .i64 h.gp, .int .i64 h.ln, .int .i64 h.rf, .int .i64 h.sp, .int .i64 h.pu, .int .i64 h.br, .int .i64 h.dr, .int .i64 h.lv, .int .i64 h.dO, .int .i64 h.ld, .int .i64 h.qu, .int .i64 (massN r), .int .i64 0, .int .i64 s.i, .int .i64 s.o, .int .i64 s.l, .int .i64 c.pos, .int .i64 c.vel, .int .i64 c.door]) := by rw [hw2]; exact FP.out.alloc _
      have F3 : Hid (Blk v_45 b3 [.pointer (some ⟨pb, 0, none⟩)]) := by rw [hw2]; exact F3.out.alloc _
      have F4 : Hid (Blk v_45 b4 [.int .i64 x.push, .bool x.brk, .bool x.opn]) := by rw [hw2]; exact F4.out.alloc _
      have FB : Hid (Below pb w v_45) := by rw [hw2]; exact FB.out.alloc (Nat.le_of_lt (Nat.lt_of_lt_of_le lt0 FB.out.size)) _
      rw [← hw2, ← hbb]
      clear hbb hw2
      refine hK.out _ _ (by (try dsimp only); first | exact ⟨F3.out, F4.out⟩ | go_keep) (fun hHeld => ?_)
      clear hK K
      try simp only [Act.put, List.getElem_toArray, List.getElem_cons_succ, List.getElem_cons_zero, List.setIfInBounds_toArray, List.set_cons_zero, List.set_cons_succ]
      refine wpAnyH_ready (rs := [1, 5]) (by kernel_rfl) (by simp) ?_
      refine (AllReadyH.cons rfl (fun K hK => ?_) (AllReadyH.cons rfl (fun K hK => ?_) AllReadyH.nil))
      · go_simp
        refine (CE _ FP.out).mono ?_
        rintro e v_46 ⟨rfl, hb⟩
        have FP : Hid (Blk v_46 pb [.int .i64 h.fl, .int .i64 h.gp, .int .i64 h.ln, .int .i64 h.rf, .int .i64 h.sp, .int .i64 h.pu, .int .i64 h.br, .int .i64 h.dr, .int .i64 h.lv, .int .i64 h.dO, .int .i64 h.ld, .int .i64 h.qu, .int .i64 (massN r), .int .i64 0, .int .i64 s.i, .int .i64 s.o, .int .i64 s.l, .int .i64 c.pos, .int .i64 c.vel, .int .i64 c.door]) := FP.out.below hb FP.out.lt
        have F3 : Hid (Blk v_46 b3 [.pointer (some ⟨pb, 0, none⟩)]) := F3.out.below hb F3.out.lt
        have F4 : Hid (Blk v_46 b4 [.int .i64 x.push, .bool x.brk, .bool x.opn]) := F4.out.below hb F4.out.lt
        have FB : Hid (Below pb w v_46) := FB.out.trans (hb.mono (Nat.le_of_lt (Nat.lt_of_lt_of_le lt0 FB.out.size)))
        have G7 : Hid (Blk v_46 b7 [.nilFunc]) := G7.out.below hb G7.out.lt
        clear hb
        try dsimp only
        refine hK.out _ _ (by (try dsimp only); first | exact ⟨F3.out, F4.out⟩ | go_keep) (fun hHeld => ?_)
        clear hK K
        try simp only [Act.put, List.getElem_toArray, List.getElem_cons_succ, List.getElem_cons_zero, List.setIfInBounds_toArray, List.set_cons_zero, List.set_cons_succ]
        refine wpAnyH_ready (rs := [4, 5]) (by kernel_rfl) (by simp) ?_
        refine (AllReadyH.cons rfl (fun K hK => ?_) (AllReadyH.cons rfl (fun K hK => ?_) AllReadyH.nil))
        · go_simp
          refine (CF _).mono ?_
          rintro e v_47 ⟨rfl, hb⟩
          have FP : Hid (Blk v_47 pb [.int .i64 h.fl, .int .i64 h.gp, .int .i64 h.ln, .int .i64 h.rf, .int .i64 h.sp, .int .i64 h.pu, .int .i64 h.br, .int .i64 h.dr, .int .i64 h.lv, .int .i64 h.dO, .int .i64 h.ld, .int .i64 h.qu, .int .i64 (massN r), .int .i64 0, .int .i64 s.i, .int .i64 s.o, .int .i64 s.l, .int .i64 c.pos, .int .i64 c.vel, .int .i64 c.door]) := FP.out.below hb FP.out.lt
          have F3 : Hid (Blk v_47 b3 [.pointer (some ⟨pb, 0, none⟩)]) := F3.out.below hb F3.out.lt
          have F4 : Hid (Blk v_47 b4 [.int .i64 x.push, .bool x.brk, .bool x.opn]) := F4.out.below hb F4.out.lt
          have FB : Hid (Below pb w v_47) := FB.out.trans (hb.mono (Nat.le_of_lt (Nat.lt_of_lt_of_le lt0 FB.out.size)))
          have G7 : Hid (Blk v_47 b7 [.nilFunc]) := G7.out.below hb G7.out.lt
          clear hb
          try dsimp only
          refine hK.out _ _ (by (try dsimp only); first | exact ⟨F3.out, F4.out⟩ | go_keep) (fun hHeld => ?_)
          clear hK K
          try simp only [Act.put, List.getElem_toArray, List.getElem_cons_succ, List.getElem_cons_zero, List.setIfInBounds_toArray, List.set_cons_zero, List.set_cons_succ]
          refine wpAnyH_ready (rs := [5]) (by kernel_rfl) (by simp) ?_
          refine (AllReadyH.cons rfl (fun K hK => ?_) AllReadyH.nil)
          go_simp
          obtain ⟨b6, hbb⟩ : ∃ b6, b6 = v_47.heap.size := ⟨_, rfl⟩
          obtain ⟨v_48, hw2⟩ : ∃ v_48, v_48 = v_47.alloc (.cells #[.int .i64 0] 2) := ⟨_, rfl⟩
          have nb6_0 := FP.out.lt
          rw [← hbb] at nb6_0
          have nb6_1 := F3.out.lt
          rw [← hbb] at nb6_1
          have nb6_2 := F4.out.lt
          rw [← hbb] at nb6_2
          have nb6_4 := G7.out.lt
          rw [← hbb] at nb6_4
          have G6 : Hid (Blk v_48 b6 [.int .i64 0]) := by rw [hw2]; exact Blk.at_ v_47 #[.int .i64 0] _ _ hbb
          have FP : Hid (Blk v_48 pb [.int .i64 h.fl, .int .i64 h.gp, .int .i64 h.ln, .int .i64 h.rf, .int .i64 h.sp, .int .i64 h.pu, .int .i64 h.br, .int .i64 h.dr, .int .i64 h.lv, .int .i64 h.dO, .int .i64 h.ld, .int .i64 h.qu, .int .i64 (massN r), .int .i64 0, .int .i64 s.i, .int .i64 s.o, .int .i64 s.l, .int .i64 c.pos, .int .i64 c.vel, .int .i64 c.door]) := by rw [hw2]; exact FP.out.alloc _
          have F3 : Hid (Blk v_48 b3 [.pointer (some ⟨pb, 0, none⟩)]) := by rw [hw2]; exact F3.out.alloc _
          have F4 : Hid (Blk v_48 b4 [.int .i64 x.push, .bool x.brk, .bool x.opn]) := by rw [hw2]; exact F4.out.alloc _
          have FB : Hid (Below pb w v_48) := by rw [hw2]; exact FB.out.alloc (Nat.le_of_lt (Nat.lt_of_lt_of_le lt0 FB.out.size)) _
          have G7 : Hid (Blk v_48 b7 [.nilFunc]) := by rw [hw2]; exact G7.out.alloc _
          rw [← hw2, ← hbb]
          clear hbb hw2
          refine hK.out _ _ (by (try dsimp only); first | exact ⟨F3.out, F4.out⟩ | go_keep) (fun hHeld => ?_)
          clear hK K
          try simp only [Act.put, List.getElem_toArray, List.getElem_cons_succ, List.getElem_cons_zero, List.setIfInBounds_toArray, List.set_cons_zero, List.set_cons_succ]
          refine wpAnyH_ready (rs := [7]) (by kernel_rfl) (by simp) ?_
          refine (AllReadyH.cons rfl (fun K hK => ?_) AllReadyH.nil)
          have k0 := G6.out.c 0 _ rfl
          have kf0 := G6.out.f 0 (by decide)
          go_simp
          obtain ⟨v_49, hw2⟩ : ∃ v_49, v_49 = putB v_48 b6 0 [.int .i64 ec] := ⟨_, rfl⟩
          change K _ (putB v_48 b6 0 [.int .i64 ec])
          rw [← hw2]
          clear k0 kf0
          have FP : Hid (Blk v_49 pb [.int .i64 h.fl, .int .i64 h.gp, .int .i64 h.ln, .int .i64 h.rf, .int .i64 h.sp, .int .i64 h.pu, .int .i64 h.br, .int .i64 h.dr, .int .i64 h.lv, .int .i64 h.dO, .int .i64 h.ld, .int .i64 h.qu, .int .i64 (massN r), .int .i64 0, .int .i64 s.i, .int .i64 s.o, .int .i64 s.l, .int .i64 c.pos, .int .i64 c.vel, .int .i64 c.door]) := by rw [hw2]; exact Blk.putB_other (by omega) _ 0 FP.out
          have F3 : Hid (Blk v_49 b3 [.pointer (some ⟨pb, 0, none⟩)]) := by rw [hw2]; exact Blk.putB_other (by omega) _ 0 F3.out
          have F4 : Hid (Blk v_49 b4 [.int .i64 x.push, .bool x.brk, .bool x.opn]) := by rw [hw2]; exact Blk.putB_other (by omega) _ 0 F4.out
          have FB : Hid (Below pb w v_49) := by rw [hw2]; exact below_putB FB.out (by omega) _ 0
          have G7 : Hid (Blk v_49 b7 [.nilFunc]) := by rw [hw2]; exact Blk.putB_other (by omega) _ 0 G7.out
          have G6 : Hid (Blk v_49 b6 [.int .i64 ec]) := by rw [hw2]; exact G6.out.put [.int .i64 ec] rfl
          clear hw2
          refine hK.out _ _ (by (try dsimp only); first | exact ⟨F3.out, F4.out⟩ | go_keep) (fun hHeld => ?_)
          clear hK K
          try simp only [Act.put, List.getElem_toArray, List.getElem_cons_succ, List.getElem_cons_zero, List.setIfInBounds_toArray, List.set_cons_zero, List.set_cons_succ]
          refine wpAnyH_ready (rs := [8]) (by kernel_rfl) (by simp) ?_
          refine (AllReadyH.cons rfl (fun K hK => ?_) AllReadyH.nil)
          have k0 := G7.out.c 0 _ rfl
          have kf0 := G7.out.f 0 (by decide)
          go_simp
          obtain ⟨v_50, hw2⟩ : ∃ v_50, v_50 = putB v_49 b7 0 [.func (.func 93) #[.pointer (some ⟨pb, 0, none⟩)] #[]] := ⟨_, rfl⟩
          change K _ (putB v_49 b7 0 [.func (.func 93) #[.pointer (some ⟨pb, 0, none⟩)] #[]])
          rw [← hw2]
          clear k0 kf0
          have FP : Hid (Blk v_50 pb [.int .i64 h.fl, .int .i64 h.gp, .int .i64 h.ln, .int .i64 h.rf, .int .i64 h.sp, .int .i64 h.pu, .int .i64 h.br, .int .i64 h.dr, .int .i64 h.lv, .int .i64 h.dO, .int .i64 h.ld, .int .i64 h.qu, .int .i64 (massN r), .int .i64 0, .int .i64 s.i, .int .i64 s.o, .int .i64 s.l, .int .i64 c.pos, .int .i64 c.vel, .int .i64 c.door]) := by rw [hw2]; exact Blk.putB_other (by omega) _ 0 FP.out
          have F3 : Hid (Blk v_50 b3 [.pointer (some ⟨pb, 0, none⟩)]) := by rw [hw2]; exact Blk.putB_other (by omega) _ 0 F3.out
          have F4 : Hid (Blk v_50 b4 [.int .i64 x.push, .bool x.brk, .bool x.opn]) := by rw [hw2]; exact Blk.putB_other (by omega) _ 0 F4.out
          have FB : Hid (Below pb w v_50) := by rw [hw2]; exact below_putB FB.out (by omega) _ 0
          have G7 : Hid (Blk v_50 b7 [.func (.func 93) #[.pointer (some ⟨pb, 0, none⟩)] #[]]) := by rw [hw2]; exact G7.out.put [.func (.func 93) #[.pointer (some ⟨pb, 0, none⟩)] #[]] rfl
          have G6 : Hid (Blk v_50 b6 [.int .i64 ec]) := by rw [hw2]; exact Blk.putB_other (by omega) _ 0 G6.out
          clear hw2
          refine hK.out _ _ (by (try dsimp only); first | exact ⟨F3.out, F4.out⟩ | go_keep) (fun hHeld => ?_)
          clear hK K
          try simp only [Act.put, List.getElem_toArray, List.getElem_cons_succ, List.getElem_cons_zero, List.setIfInBounds_toArray, List.set_cons_zero, List.set_cons_succ]
          refine wpAnyH_done (by kernel_rfl) ?_ _
          go_wp2_with fail
          go_meet
          case rel => exact ⟨b6, b7, rfl, rfl, by omega, by omega, G6.out, G7.out, FP.out, F3.out, F4.out, FB.out⟩
        · go_simp
          obtain ⟨b6, hbb⟩ : ∃ b6, b6 = v_46.heap.size := ⟨_, rfl⟩
          obtain ⟨v_51, hw2⟩ : ∃ v_51, v_51 = v_46.alloc (.cells #[.int .i64 0] 2) := ⟨_, rfl⟩
          have nb6_0 := FP.out.lt
          rw [← hbb] at nb6_0
          have nb6_1 := F3.out.lt
          rw [← hbb] at nb6_1
          have nb6_2 := F4.out.lt
          rw [← hbb] at nb6_2
          have nb6_4 := G7.out.lt
          rw [← hbb] at nb6_4
          have G6 : Hid (Blk v_51 b6 [.int .i64 0]) := by rw [hw2]; exact Blk.at_ v_46 #[.int .i64 0] _ _ hbb
          have FP : Hid (Blk v_51 pb [.int .i64 h.fl, .int .i64 h.gp, .int .i64 h.ln, .int .i64 h.rf, .int .i64 h.sp, .int .i64 h.pu, .int .i64 h.br, .int .i64 h.dr, .int .i64 h.lv, .int .i64 h.dO, .int .i64 h.ld, .int .i64 h.qu, .int .i64 (massN r), .int .i64 0, .int .i64 s.i, .int .i64 s.o, .int .i64 s.l, .int .i64 c.pos, .int .i64 c.vel, .int .i64 c.door]) := by rw [hw2]; exact FP.out.alloc _
          have F3 : Hid (Blk v_51 b3 [.pointer (some ⟨pb, 0, none⟩)]) := by rw [hw2]; exact F3.out.alloc _
          have F4 : Hid (Blk v_51 b4 [.int .i64 x.push, .bool x.brk, .bool x.opn]) := by rw [hw2]; exact F4.out.alloc _
          have FB : Hid (Below pb w v_51) := by rw [hw2]; exact FB.out.alloc (Nat.le_of_lt (Nat.lt_of_lt_of_le lt0 FB.out.size)) _
          have G7 : Hid (Blk v_51 b7 [.nilFunc]) := by rw [hw2]; exact G7.out.alloc _
          rw [← hw2, ← hbb]
          clear hbb hw2
          refine hK.out _ _ (by (try dsimp only); first | exact ⟨F3.out, F4.out⟩ | go_keep) (fun hHeld => ?_)
          clear hK K
          try simp only [Act.put, List.getElem_toArray, List.getElem_cons_succ, List.getElem_cons_zero, List.setIfInBounds_toArray, List.set_cons_zero, List.set_cons_succ]
          refine wpAnyH_ready (rs := [4]) (by kernel_rfl) (by simp) ?_
          refine (AllReadyH.cons rfl (fun K hK => ?_) AllReadyH.nil)
          go_simp
          refine (CF _).mono ?_
          rintro e v_52 ⟨rfl, hb⟩
          have FP : Hid (Blk v_52 pb [.int .i64 h.fl, .int .i64 h.gp, .int .i64 h.ln, .int .i64 h.rf, .int .i64 h.sp, .int .i64 h.pu, .int .i64 h.br, .int .i64 h.dr, .int .i64 h.lv, .int .i64 h.dO, .int .i64 h.ld, .int .i64 h.qu, .int .i64 (massN r), .int .i64 0, .int .i64 s.i, .int .i64 s.o, .int .i64 s.l, .int .i64 c.pos, .int .i64 c.vel, .int .i64 c.door]) := FP.out.below hb FP.out.lt
          have F3 : Hid (Blk v_52 b3 [.pointer (some ⟨pb, 0, none⟩)]) := F3.out.below hb F3.out.lt
          have F4 : Hid (Blk v_52 b4 [.int .i64 x.push, .bool x.brk, .bool x.opn]) := F4.out.below hb F4.out.lt
          have FB : Hid (Below pb w v_52) := FB.out.trans (hb.mono (Nat.le_of_lt (Nat.lt_of_lt_of_le lt0 FB.out.size)))
          have G7 : Hid (Blk v_52 b7 [.nilFunc]) := G7.out.below hb G7.out.lt
          have G6 : Hid (Blk v_52 b6 [.int .i64 0]) := G6.out.below hb G6.out.lt
          clear hb
          try dsimp only
          refine hK.out _ _ (by (try dsimp only); first | exact ⟨F3.out, F4.out⟩ | go_keep) (fun hHeld => ?_)
          clear hK K
          try simp only [Act.put, List.getElem_toArray, List.getElem_cons_succ, List.getElem_cons_zero, List.setIfInBounds_toArray, List.set_cons_zero, List.set_cons_succ]
          refine wpAnyH_ready (rs := [7]) (by kernel_rfl) (by simp) ?_
          refine (AllReadyH.cons rfl (fun K hK => ?_) AllReadyH.nil)
          have k0 := G6.out.c 0 _ rfl
          have kf0 := G6.out.f 0 (by decide)
          go_simp
          obtain ⟨v_53, hw2⟩ : ∃ v_53, v_53 = putB v_52 b6 0 [.int .i64 ec] := ⟨_, rfl⟩
          change K _ (putB v_52 b6 0 [.int .i64 ec])
          rw [← hw2]
          clear k0 kf0
          have FP : Hid (Blk v_53 pb [.int .i64 h.fl, .int .i64 h.gp, .int .i64 h.ln, .int .i64 h.rf, .int .i64 h.sp, .int .i64 h.pu, .int .i64 h.br, .int .i64 h.dr, .int .i64 h.lv, .int .i64 h.dO, .int .i64 h.ld, .int .i64 h.qu, .int .i64 (massN r), .int .i64 0, .int .i64 s.i, .int .i64 s.o, .int .i64 s.l, .int .i64 c.pos, .int .i64 c.vel, .int .i64 c.door]) := by rw [hw2]; exact Blk.putB_other (by omega) _ 0 FP.out
          have F3 : Hid (Blk v_53 b3 [.pointer (some ⟨pb, 0, none⟩)]) := by rw [hw2]; exact Blk.putB_other (by omega) _ 0 F3.out
          have F4 : Hid (Blk v_53 b4 [.int .i64 x.push, .bool x.brk, .bool x.opn]) := by rw [hw2]; exact Blk.putB_other (by omega) _ 0 F4.out
          have FB : Hid (Below pb w v_53) := by rw [hw2]; exact below_putB FB.out (by omega) _ 0
          have G7 : Hid (Blk v_53 b7 [.nilFunc]) := by rw [hw2]; exact Blk.putB_other (by omega) _ 0 G7.out
          have G6 : Hid (Blk v_53 b6 [.int .i64 ec]) := by rw [hw2]; exact G6.out.put [.int .i64 ec] rfl
          clear hw2
          refine hK.out _ _ (by (try dsimp only); first | exact ⟨F3.out, F4.out⟩ | go_keep) (fun hHeld => ?_)
          clear hK K
          try simp only [Act.put, List.getElem_toArray, List.getElem_cons_succ, List.getElem_cons_zero, List.setIfInBounds_toArray, List.set_cons_zero, List.set_cons_succ]
          refine wpAnyH_ready (rs := [8]) (by kernel_rfl) (by simp) ?_
          refine (AllReadyH.cons rfl (fun K hK => ?_) AllReadyH.nil)
          have k0 := G7.out.c 0 _ rfl
          have kf0 := G7.out.f 0 (by decide)
          go_simp
          obtain ⟨v_54, hw2⟩ : ∃ v_54, v_54 = putB v_53 b7 0 [.func (.func 93) #[.pointer (some ⟨pb, 0, none⟩)] #[]] := ⟨_, rfl⟩
          change K _ (putB v_53 b7 0 [.func (.func 93) #[.pointer (some ⟨pb, 0, none⟩)] #[]])
          rw [← hw2]
          clear k0 kf0
          have FP : Hid (Blk v_54 pb [.int .i64 h.fl, .int .i64 h.gp, .int .i64 h.ln, .int .i64 h.rf, .int .i64 h.sp, .int .i64 h.pu, .int .i64 h.br, .int .i64 h.dr, .int .i64 h.lv, .int .i64 h.dO, .int .i64 h.ld, .int .i64 h.qu, .int .i64 (massN r), .int .i64 0, .int .i64 s.i, .int .i64 s.o, .int .i64 s.l, .int .i64 c.pos, .int .i64 c.vel, .int .i64 c.door]) := by rw [hw2]; exact Blk.putB_other (by omega) _ 0 FP.out
          have F3 : Hid (Blk v_54 b3 [.pointer (some ⟨pb, 0, none⟩)]) := by rw [hw2]; exact Blk.putB_other (by omega) _ 0 F3.out
          have F4 : Hid (Blk v_54 b4 [.int .i64 x.push, .bool x.brk, .bool x.opn]) := by rw [hw2]; exact Blk.putB_other (by omega) _ 0 F4.out
          have FB : Hid (Below pb w v_54) := by rw [hw2]; exact below_putB FB.out (by omega) _ 0
          have G7 : Hid (Blk v_54 b7 [.func (.func 93) #[.pointer (some ⟨pb, 0, none⟩)] #[]]) := by rw [hw2]; exact G7.out.put [.func (.func 93) #[.pointer (some ⟨pb, 0, none⟩)] #[]] rfl
          have G6 : Hid (Blk v_54 b6 [.int .i64 ec]) := by rw [hw2]; exact Blk.putB_other (by omega) _ 0 G6.out
          clear hw2
          refine hK.out _ _ (by (try dsimp only); first | exact ⟨F3.out, F4.out⟩ | go_keep) (fun hHeld => ?_)
          clear hK K
          try simp only [Act.put, List.getElem_toArray, List.getElem_cons_succ, List.getElem_cons_zero, List.setIfInBounds_toArray, List.set_cons_zero, List.set_cons_succ]
          refine wpAnyH_done (by kernel_rfl) ?_ _
          go_wp2_with fail
          go_meet
          case rel => exact ⟨b6, b7, rfl, rfl, by omega, by omega, G6.out, G7.out, FP.out, F3.out, F4.out, FB.out⟩
      · go_simp
        obtain ⟨b6, hbb⟩ : ∃ b6, b6 = v_45.heap.size := ⟨_, rfl⟩
        obtain ⟨v_55, hw2⟩ : ∃ v_55, v_55 = v_45.alloc (.cells #[.int .i64 0] 2) := ⟨_, rfl⟩
        have nb6_0 := FP.out.lt
        rw [← hbb] at nb6_0
        have nb6_1 := F3.out.lt
        rw [← hbb] at nb6_1
        have nb6_2 := F4.out.lt
        rw [← hbb] at nb6_2
        have nb6_4 := G7.out.lt
        rw [← hbb] at nb6_4
        have G6 : Hid (Blk v_55 b6 [.int .i64 0]) := by rw [hw2]; exact Blk.at_ v_45 #[.int .i64 0] _ _ hbb
        have FP : Hid (Blk v_55 pb [.int .i64 h.fl, .int .i64 h.gp, .int .i64 h.ln, .int .i64 h.rf, .int .i64 h.sp, .int .i64 h.pu, .int .i64 h.br, .int .i64 h.dr, .int .i64 h.lv, .int .i64 h.dO, .int .i64 h.ld, .int .i64 h.qu, .int .i64 (massN r), .int .i64 0, .int .i64 s.i, .int .i64 s.o, .int .i64 s.l, .int .i64 c.pos, .int .i64 c.vel, .int .i64 c.door]) := by rw [hw2]; exact FP.out.alloc _
        have F3 : Hid (Blk v_55 b3 [.pointer (some ⟨pb, 0, none⟩)]) := by rw [hw2]; exact F3.out.alloc _
        have F4 : Hid (Blk v_55 b4 [.int .i64 x.push, .bool x.brk, .bool x.opn]) := by rw [hw2]; exact F4.out.alloc _
        have FB : Hid (Below pb w v_55) := by rw [hw2]; exact FB.out.alloc (Nat.le_of_lt (Nat.lt_of_lt_of_le lt0 FB.out.size)) _
        have G7 : Hid (Blk v_55 b7 [.nilFunc]) := by rw [hw2]; exact G7.out.alloc _
        rw [← hw2, ← hbb]
        clear hbb hw2
        refine hK.out _ _ (by (try dsimp only); first | exact ⟨F3.out, F4.out⟩ | go_keep) (fun hHeld => ?_)
        clear hK K
        try simp only [Act.put, List.getElem_toArray, List.getElem_cons_succ, List.getElem_cons_zero, List.setIfInBounds_toArray, List.set_cons_zero, List.set_cons_succ]
        refine wpAnyH_ready (rs := [1]) (by kernel_rfl) (by simp) ?_
        refine (AllReadyH.cons rfl (fun K hK => ?_) AllReadyH.nil)
        go_simp
        refine (CE _ FP.out).mono ?_
        rintro e v_56 ⟨rfl, hb⟩
        have FP : Hid (Blk v_56 pb [.int .i64 h.fl, .int .i64 h.gp, .int .i64 h.ln, .int .i64 h.rf, .int .i64 h.sp, .int .i64 h.pu, .int .i64 h.br, .int .i64 h.dr, .int .i64 h.lv, .int .i64 h.dO, .int .i64 h.ld, .int .i64 h.qu, .int .i64 (massN r), .int .i64 0, .int .i64 s.i, .int .i64 s.o, .int .i64 s.l, .int .i64 c.pos, .int .i64 c.vel, .int .i64 c.door]) := FP.out.below hb FP.out.lt
        have F3 : Hid (Blk v_56 b3 [.pointer (some ⟨pb, 0, none⟩)]) := F3.out.below hb F3.out.lt
        have F4 : Hid (Blk v_56 b4 [.int .i64 x.push, .bool x.brk, .bool x.opn]) := F4.out.below hb F4.out.lt
        have FB : Hid (Below pb w v_56) := FB.out.trans (hb.mono (Nat.le_of_lt (Nat.lt_of_lt_of_le lt0 FB.out.size)))
        have G7 : Hid (Blk v_56 b7 [.nilFunc]) := G7.out.below hb G7.out.lt
        have G6 : Hid (Blk v_56 b6 [.int .i64 0]) := G6.out.below hb G6.out.lt
        clear hb
        try dsimp only
        refine hK.out _ _ (by (try dsimp only); first | exact ⟨F3.out, F4.out⟩ | go_keep) (fun hHeld => ?_)
        clear hK K
        try simp only [Act.put, List.getElem_toArray, List.getElem_cons_succ, List.getElem_cons_zero, List.setIfInBounds_toArray, List.set_cons_zero, List.set_cons_succ]
        refine wpAnyH_ready (rs := [4]) (by kernel_rfl) (by simp) ?_
        refine (AllReadyH.cons rfl (fun K hK => ?_) AllReadyH.nil)
        go_simp
        refine (CF _).mono ?_
        rintro e v_57 ⟨rfl, hb⟩
        have FP : Hid (Blk v_57 pb [.int .i64 h.fl, .int .i64 h.gp, .int .i64 h.ln, .int .i64 h.rf, .int .i64 h.sp, .int .i64 h.pu, .int .i64 h.br, .int .i64 h.dr, .int .i64 h.lv, .int .i64 h.dO, .int .i64 h.ld, .int .i64 h.qu, .int .i64 (massN r), .int .i64 0, .int .i64 s.i, .int .i64 s.o, .int .i64 s.l, .int .i64 c.pos, .int .i64 c.vel, .int .i64 c.door]) := FP.out.below hb FP.out.lt
        have F3 : Hid (Blk v_57 b3 [.pointer (some ⟨pb, 0, none⟩)]) := F3.out.below hb F3.out.lt
        have F4 : Hid (Blk v_57 b4 [.int .i64 x.push, .bool x.brk, .bool x.opn]) := F4.out.below hb F4.out.lt
        have FB : Hid (Below pb w v_57) := FB.out.trans (hb.mono (Nat.le_of_lt (Nat.lt_of_lt_of_le lt0 FB.out.size)))
        have G7 : Hid (Blk v_57 b7 [.nilFunc]) := G7.out.below hb G7.out.lt
        have G6 : Hid (Blk v_57 b6 [.int .i64 0]) := G6.out.below hb G6.out.lt
        clear hb
        try dsimp only
        refine hK.out _ _ (by (try dsimp only); first | exact ⟨F3.out, F4.out⟩ | go_keep) (fun hHeld => ?_)
        clear hK K
        try simp only [Act.put, List.getElem_toArray, List.getElem_cons_succ, List.getElem_cons_zero, List.setIfInBounds_toArray, List.set_cons_zero, List.set_cons_succ]
        refine wpAnyH_ready (rs := [7]) (by kernel_rfl) (by simp) ?_
        refine (AllReadyH.cons rfl (fun K hK => ?_) AllReadyH.nil)
        have k0 := G6.out.c 0 _ rfl
        have kf0 := G6.out.f 0 (by decide)
        go_simp
        obtain ⟨v_58, hw2⟩ : ∃ v_58, v_58 = putB v_57 b6 0 [.int .i64 ec] := ⟨_, rfl⟩
        change K _ (putB v_57 b6 0 [.int .i64 ec])
        rw [← hw2]
        clear k0 kf0
        have FP : Hid (Blk v_58 pb [.int .i64 h.fl, .int .i64 h.gp, .int .i64 h.ln, .int .i64 h.rf, .int .i64 h.sp, .int .i64 h.pu, .int .i64 h.br, .int .i64 h.dr, .int .i64 h.lv, .int .i64 h.dO, .int .i64 h.ld, .int .i64 h.qu, .int .i64 (massN r), .int .i64 0, .int .i64 s.i, .int .i64 s.o, .int .i64 s.l, .int .i64 c.pos, .int .i64 c.vel, .int .i64 c.door]) := by rw [hw2]; exact Blk.putB_other (by omega) _ 0 FP.out
        have F3 : Hid (Blk v_58 b3 [.pointer (some ⟨pb, 0, none⟩)]) := by rw [hw2]; exact Blk.putB_other (by omega) _ 0 F3.out
        have F4 : Hid (Blk v_58 b4 [.int .i64 x.push, .bool x.brk, .bool x.opn]) := by rw [hw2]; exact Blk.putB_other (by omega) _ 0 F4.out
        have FB : Hid (Below pb w v_58) := by rw [hw2]; exact below_putB FB.out (by omega) _ 0
        have G7 : Hid (Blk v_58 b7 [.nilFunc]) := by rw [hw2]; exact Blk.putB_other (by omega) _ 0 G7.out
        have G6 : Hid (Blk v_58 b6 [.int .i64 ec]) := by rw [hw2]; exact G6.out.put [.int .i64 ec] rfl
        clear hw2
        refine hK.out _ _ (by (try dsimp only); first | exact ⟨F3.out, F4.out⟩ | go_keep) (fun hHeld => ?_)
        clear hK K
        try simp only [Act.put, List.getElem_toArray, List.getElem_cons_succ, List.getElem_cons_zero, List.setIfInBounds_toArray, List.set_cons_zero, List.set_cons_succ]
        refine wpAnyH_ready (rs := [8]) (by kernel_rfl) (by simp) ?_
        refine (AllReadyH.cons rfl (fun K hK => ?_) AllReadyH.nil)
        have k0 := G7.out.c 0 _ rfl
        have kf0 := G7.out.f 0 (by decide)
        go_simp
        obtain ⟨v_59, hw2⟩ : ∃ v_59, v_59 = putB v_58 b7 0 [.func (.func 93) #[.pointer (some ⟨pb, 0, none⟩)] #[]] := ⟨_, rfl⟩
        change K _ (putB v_58 b7 0 [.func (.func 93) #[.pointer (some ⟨pb, 0, none⟩)] #[]])
        rw [← hw2]
        clear k0 kf0
        have FP : Hid (Blk v_59 pb [.int .i64 h.fl, .int .i64 h.gp, .int .i64 h.ln, .int .i64 h.rf, .int .i64 h.sp, .int .i64 h.pu, .int .i64 h.br, .int .i64 h.dr, .int .i64 h.lv, .int .i64 h.dO, .int .i64 h.ld, .int .i64 h.qu, .int .i64 (massN r), .int .i64 0, .int .i64 s.i, .int .i64 s.o, .int .i64 s.l, .int .i64 c.pos, .int .i64 c.vel, .int .i64 c.door]) := by rw [hw2]; exact Blk.putB_other (by omega) _ 0 FP.out
        have F3 : Hid (Blk v_59 b3 [.pointer (some ⟨pb, 0, none⟩)]) := by rw [hw2]; exact Blk.putB_other (by omega) _ 0 F3.out
        have F4 : Hid (Blk v_59 b4 [.int .i64 x.push, .bool x.brk, .bool x.opn]) := by rw [hw2]; exact Blk.putB_other (by omega) _ 0 F4.out
        have FB : Hid (Below pb w v_59) := by rw [hw2]; exact below_putB FB.out (by omega) _ 0
        have G7 : Hid (Blk v_59 b7 [.func (.func 93) #[.pointer (some ⟨pb, 0, none⟩)] #[]]) := by rw [hw2]; exact G7.out.put [.func (.func 93) #[.pointer (some ⟨pb, 0, none⟩)] #[]] rfl
        have G6 : Hid (Blk v_59 b6 [.int .i64 ec]) := by rw [hw2]; exact Blk.putB_other (by omega) _ 0 G6.out
        clear hw2
        refine hK.out _ _ (by (try dsimp only); first | exact ⟨F3.out, F4.out⟩ | go_keep) (fun hHeld => ?_)
        clear hK K
        try simp only [Act.put, List.getElem_toArray, List.getElem_cons_succ, List.getElem_cons_zero, List.setIfInBounds_toArray, List.set_cons_zero, List.set_cons_succ]
        refine wpAnyH_done (by kernel_rfl) ?_ _
        go_wp2_with fail
        go_meet
        case rel => exact ⟨b6, b7, rfl, rfl, by omega, by omega, G6.out, G7.out, FP.out, F3.out, F4.out, FB.out⟩
  case rest =>
  obtain ⟨b6, b7, rfl, rfl, n6, n7, h_G6, h_G7, h_FP, h_F3, h_F4, hB⟩ := hcut
  have G6 : Hid (Blk wc b6 [.int .i64 ec]) := h_G6
  have G7 : Hid (Blk wc b7 [.func (.func 93) #[.pointer (some ⟨pb, 0, none⟩)] #[]]) := h_G7
  clear h_G6 h_G7
  have FP : Hid (Blk wc pb [.int .i64 h.fl, .int .i64 h.gp, .int .i64 h.ln, .int .i64 h.rf, .int .i64 h.sp, .int .i64 h.pu, .int .i64 h.br, .int .i64 h.dr, .int .i64 h.lv, .int .i64 h.dO, .int .i64 h.ld, .int .i64 h.qu, .int .i64 (massN r), .int .i64 0, .int .i64 s.i, .int .i64 s.o, .int .i64 s.l, .int .i64 c.pos, .int .i64 c.vel, .int .i64 c.door]) := h_FP
  have F3 : Hid (Blk wc b3 [.pointer (some ⟨pb, 0, none⟩)]) := h_F3
  have F4 : Hid (Blk wc b4 [.int .i64 x.push, .bool x.brk, .bool x.opn]) := h_F4
  have FB : Hid (Below pb w wc) := hB
  clear h_FP h_F3 h_F4 hB
  go_upto_region 3 with fail
  have FP : Hid (Blk wc.drew pb [.int .i64 h.fl, .int .i64 h.gp, .int .i64 h.ln, .int .i64 h.rf, .int .i64 h.sp, .int .i64 h.pu, .int .i64 h.br, .int .i64 h.dr, .int .i64 h.lv, .int .i64 h.dO, .int .i64 h.ld, .int .i64 h.qu, .int .i64 (massN r), .int .i64 0, .int .i64 s.i, .int .i64 s.o, .int .i64 s.l, .int .i64 c.pos, .int .i64 c.vel, .int .i64 c.door]) := FP.out.below (Below.refl _ _).drew FP.out.lt
  have F3 : Hid (Blk wc.drew b3 [.pointer (some ⟨pb, 0, none⟩)]) := F3.out.below (Below.refl _ _).drew F3.out.lt
  have F4 : Hid (Blk wc.drew b4 [.int .i64 x.push, .bool x.brk, .bool x.opn]) := F4.out.below (Below.refl _ _).drew F4.out.lt
  have G6 : Hid (Blk wc.drew b6 [.int .i64 ec]) := G6.out.below (Below.refl _ _).drew G6.out.lt
  have G7 : Hid (Blk wc.drew b7 [.func (.func 93) #[.pointer (some ⟨pb, 0, none⟩)] #[]]) := G7.out.below (Below.refl _ _).drew G7.out.lt
  have FB : Hid (Below pb w wc.drew) := FB.out.drew
  refine wp_region_held_drew (S := (fun w'' => Blk w'' b3 ([.pointer (some ⟨pb, 0, none⟩)]) ∧ Blk w'' b4 ([.int .i64 x.push, .bool x.brk, .bool x.opn]))) (by kernel_rfl) (by (try dsimp only); first | exact ⟨F3.out, F4.out⟩ | go_keep) (fun hHeld => ?_)
  obtain ⟨v_60, hw1⟩ : ∃ v_60, v_60 = wc.drew := ⟨_, rfl⟩
  have FP : Hid (Blk v_60 pb [.int .i64 h.fl, .int .i64 h.gp, .int .i64 h.ln, .int .i64 h.rf, .int .i64 h.sp, .int .i64 h.pu, .int .i64 h.br, .int .i64 h.dr, .int .i64 h.lv, .int .i64 h.dO, .int .i64 h.ld, .int .i64 h.qu, .int .i64 (massN r), .int .i64 0, .int .i64 s.i, .int .i64 s.o, .int .i64 s.l, .int .i64 c.pos, .int .i64 c.vel, .int .i64 c.door]) := by rw [hw1]; exact FP.out
  have F3 : Hid (Blk v_60 b3 [.pointer (some ⟨pb, 0, none⟩)]) := by rw [hw1]; exact F3.out
  have F4 : Hid (Blk v_60 b4 [.int .i64 x.push, .bool x.brk, .bool x.opn]) := by rw [hw1]; exact F4.out
  have G6 : Hid (Blk v_60 b6 [.int .i64 ec]) := by rw [hw1]; exact G6.out
  have G7 : Hid (Blk v_60 b7 [.func (.func 93) #[.pointer (some ⟨pb, 0, none⟩)] #[]]) := by rw [hw1]; exact G7.out
  have FB : Hid (Below pb w v_60) := by rw [hw1]; exact FB.out
  rw [← hw1] at hHeld ⊢
  clear hw1
  refine tkz 0 rfl ?_ (hQ := fun c a w h => leaves_void step_void _ _ _ h) (hy := Or.inl ⟨by kernel_rfl, by (intro wx hSw; have hq0_0 := hSw.1.c 0 _ rfl; (try dsimp only at hSw); go_simp <;> with_reducible rfl)⟩)
  refine tkz 1 rfl ?_ (hQ := fun c a w h => leaves_void step_void _ _ _ h) (hy := Or.inl ⟨by kernel_rfl, by (intro wx hSw; have hq0_0 := hSw.1.c 0 _ rfl; (try dsimp only at hSw); go_simp <;> with_reducible rfl)⟩)
  refine tkz 2 rfl ?_ (hQ := fun c a w h => leaves_void step_void _ _ _ h)
  refine tkz 3 rfl ?_ (hQ := fun c a w h => leaves_void step_void _ _ _ h)
  refine tkz 5 rfl ?_ (hQ := fun c a w h => leaves_void step_void _ _ _ h) (hy := Or.inl ⟨by kernel_rfl, by (intro wx hSw; have hq0_0 := hSw.1.c 0 _ rfl; (try dsimp only at hSw); go_simp <;> with_reducible rfl)⟩)
  refine tkz 6 rfl ?_ (hQ := fun c a w h => leaves_void step_void _ _ _ h)
  refine tkz 7 rfl ?_ (hQ := fun c a w h => leaves_void step_void _ _ _ h)
  refine tkz 8 rfl ?_ (hQ := fun c a w h => leaves_void step_void _ _ _ h)
  refine tkz 10 rfl ?_ (hQ := fun c a w h => leaves_void step_void _ _ _ h) (hy := Or.inl ⟨by kernel_rfl, fun wx hSw => exec_load_blk 42 _ Try.underlying42 (by kernel_rfl) rfl rfl hSw.2⟩)
  refine tkz 11 rfl ?_ (hQ := fun c a w h => leaves_void step_void _ _ _ h)
  refine wpAnyH_ready (rs := [4, 9]) (by kernel_rfl) (by simp) ?_
  refine (AllReadyH.cons rfl (fun K hK => ?_) (AllReadyH.cons rfl (fun K hK => ?_) AllReadyH.nil))
  · have z0 := FP.out.c 0 _ rfl
    have z1 := FP.out.c 1 _ rfl
    have z2 := FP.out.c 2 _ rfl
    have z3 := FP.out.c 3 _ rfl
    have z4 := FP.out.c 4 _ rfl
    have z5 := FP.out.c 5 _ rfl
    have z6 := FP.out.c 6 _ rfl
    have z7 := FP.out.c 7 _ rfl
    have z8 := FP.out.c 8 _ rfl
    have z9 := FP.out.c 9 _ rfl
    have z10 := FP.out.c 10 _ rfl
    have z11 := FP.out.c 11 _ rfl
    go_simp
    refine hK.out _ _ (by (try dsimp only); first | exact ⟨F3.out, F4.out⟩ | go_keep) (fun hHeld => ?_)
    clear hK K
    try simp only [Act.put, List.getElem_toArray, List.getElem_cons_succ, List.getElem_cons_zero, List.setIfInBounds_toArray, List.set_cons_zero, List.set_cons_succ]
    refine wpAnyH_ready (rs := [9]) (by kernel_rfl) (by simp) ?_
    refine (AllReadyH.cons rfl (fun K hK => ?_) AllReadyH.nil)
    have z17 := FP.out.c 17 _ rfl
    have z18 := FP.out.c 18 _ rfl
    have z19 := FP.out.c 19 _ rfl
    go_simp
    refine hK.out _ _ (by (try dsimp only); first | exact ⟨F3.out, F4.out⟩ | go_keep) (fun hHeld => ?_)
    clear hK K
    try simp only [Act.put, List.getElem_toArray, List.getElem_cons_succ, List.getElem_cons_zero, List.setIfInBounds_toArray, List.set_cons_zero, List.set_cons_succ]
    refine wpAnyH_ready (rs := [12]) (by kernel_rfl) (by simp) ?_
    refine (AllReadyH.cons rfl (fun K hK => ?_) AllReadyH.nil)
    go_simp
    refine (CB _).mono ?_
    rintro e v_61 ⟨rfl, hb⟩
    have FP : Hid (Blk v_61 pb [.int .i64 h.fl, .int .i64 h.gp, .int .i64 h.ln, .int .i64 h.rf, .int .i64 h.sp, .int .i64 h.pu, .int .i64 h.br, .int .i64 h.dr, .int .i64 h.lv, .int .i64 h.dO, .int .i64 h.ld, .int .i64 h.qu, .int .i64 (massN r), .int .i64 0, .int .i64 s.i, .int .i64 s.o, .int .i64 s.l, .int .i64 c.pos, .int .i64 c.vel, .int .i64 c.door]) := FP.out.below hb FP.out.lt
    have F3 : Hid (Blk v_61 b3 [.pointer (some ⟨pb, 0, none⟩)]) := F3.out.below hb F3.out.lt
    have F4 : Hid (Blk v_61 b4 [.int .i64 x.push, .bool x.brk, .bool x.opn]) := F4.out.below hb F4.out.lt
    have G6 : Hid (Blk v_61 b6 [.int .i64 ec]) := G6.out.below hb G6.out.lt
    have G7 : Hid (Blk v_61 b7 [.func (.func 93) #[.pointer (some ⟨pb, 0, none⟩)] #[]]) := G7.out.below hb G7.out.lt
    have FB : Hid (Below pb w v_61) := FB.out.trans (hb.mono (Nat.le_of_lt (Nat.lt_of_lt_of_le lt0 FB.out.size)))
    clear hb
    try dsimp only
    refine hK.out _ _ (by (try dsimp only); first | exact ⟨F3.out, F4.out⟩ | go_keep) (fun hHeld => ?_)
    clear hK K
    try simp only [Act.put, List.getElem_toArray, List.getElem_cons_succ, List.getElem_cons_zero, List.setIfInBounds_toArray, List.set_cons_zero, List.set_cons_succ]
    refine tkz 13 rfl ?_ (hQ := fun c a w h => leaves_void step_void _ _ _ h)
    refine tkz 14 rfl ?_ (hQ := fun c a w h => leaves_void step_void _ _ _ h)
    refine tkz 15 rfl ?_ (hQ := fun c a w h => leaves_void step_void _ _ _ h)
    refine wpAnyH_ready (rs := [16]) (by kernel_rfl) (by simp) ?_
    refine (AllReadyH.cons rfl (fun K hK => ?_) AllReadyH.nil)
    have z17 := FP.out.c 17 _ rfl
    have z18 := FP.out.c 18 _ rfl
    have z19 := FP.out.c 19 _ rfl
    have zf17 := FP.out.f 17 (Nat.le_of_ble_eq_true rfl)
    have zf18 := FP.out.f 18 (Nat.le_of_ble_eq_true rfl)
    have zf19 := FP.out.f 19 (Nat.le_of_ble_eq_true rfl)
    go_simp
    obtain ⟨v_62, hw2⟩ : ∃ v_62, v_62 = putB v_61 pb 17 [.int .i64 g.pos, .int .i64 g.vel, .int .i64 g.door] := ⟨_, rfl⟩
    change K _ (putB v_61 pb 17 [.int .i64 g.pos, .int .i64 g.vel, .int .i64 g.door])
    rw [← hw2]
    clear z17 z18 z19 zf17 zf18 zf19
    have FP : Hid (Blk v_62 pb [.int .i64 h.fl, .int .i64 h.gp, .int .i64 h.ln, .int .i64 h.rf, .int .i64 h.sp, .int .i64 h.pu, .int .i64 h.br, .int .i64 h.dr, .int .i64 h.lv, .int .i64 h.dO, .int .i64 h.ld, .int .i64 h.qu, .int .i64 (massN r), .int .i64 0, .int .i64 s.i, .int .i64 s.o, .int .i64 s.l, .int .i64 g.pos, .int .i64 g.vel, .int .i64 g.door]) := by rw [hw2]; exact putB_set [.int .i64 g.pos, .int .i64 g.vel, .int .i64 g.door] _ 17 _ FP.out (Nat.le_of_ble_eq_true rfl)
    have F3 : Hid (Blk v_62 b3 [.pointer (some ⟨pb, 0, none⟩)]) := by rw [hw2]; exact Blk.putB_other (by omega) _ 17 F3.out
    have F4 : Hid (Blk v_62 b4 [.int .i64 x.push, .bool x.brk, .bool x.opn]) := by rw [hw2]; exact Blk.putB_other (by omega) _ 17 F4.out
    have G6 : Hid (Blk v_62 b6 [.int .i64 ec]) := by rw [hw2]; exact Blk.putB_other (by omega) _ 17 G6.out
    have G7 : Hid (Blk v_62 b7 [.func (.func 93) #[.pointer (some ⟨pb, 0, none⟩)] #[]]) := by rw [hw2]; exact Blk.putB_other (by omega) _ 17 G7.out
    have FB : Hid (Below pb w v_62) := by rw [hw2]; exact below_putB FB.out (Nat.le_refl _) _ 17
    clear hw2
    refine hK.out _ _ (by (try dsimp only); first | exact ⟨F3.out, F4.out⟩ | go_keep) (fun hHeld => ?_)
    clear hK K
    try simp only [Act.put, List.getElem_toArray, List.getElem_cons_succ, List.getElem_cons_zero, List.setIfInBounds_toArray, List.set_cons_zero, List.set_cons_succ]
    refine wpAnyH_done (by kernel_rfl) ?_ _
    go_wp2
    refine leaves_cons (f := 70) (args := #[.pointer (some ⟨b7, 0, none⟩), .pointer (some ⟨b3, 0, none⟩), .pointer (some ⟨b6, 0, none⟩)]) (by simp) (by simp [go_sem]) ?_
    refine (step1_braked h HO.out g r ec HM.out r1 r3 eb.1 eb.2 s i1 i2 o1 o2 pb b7 b3 b6 n7 n3 n6 _ _ FP.out G7.out F3.out G6.out).mono ?_
    rintro e u' w'' ⟨rfl, rfl, hP, hb⟩
    have FB9 : Below pb w w'' := FB.out.trans hb
    simp only [Leaves, settle]
    exact ⟨_, by simp [results, Try.results49, go_sem], rfl, hP, FB9⟩
  · have z17 := FP.out.c 17 _ rfl
    have z18 := FP.out.c 18 _ rfl
    have z19 := FP.out.c 19 _ rfl
    go_simp
    refine hK.out _ _ (by (try dsimp only); first | exact ⟨F3.out, F4.out⟩ | go_keep) (fun hHeld => ?_)
    clear hK K
    try simp only [Act.put, List.getElem_toArray, List.getElem_cons_succ, List.getElem_cons_zero, List.setIfInBounds_toArray, List.set_cons_zero, List.set_cons_succ]
    refine wpAnyH_ready (rs := [4]) (by kernel_rfl) (by simp) ?_
    refine (AllReadyH.cons rfl (fun K hK => ?_) AllReadyH.nil)
    have z0 := FP.out.c 0 _ rfl
    have z1 := FP.out.c 1 _ rfl
    have z2 := FP.out.c 2 _ rfl
    have z3 := FP.out.c 3 _ rfl
    have z4 := FP.out.c 4 _ rfl
    have z5 := FP.out.c 5 _ rfl
    have z6 := FP.out.c 6 _ rfl
    have z7 := FP.out.c 7 _ rfl
    have z8 := FP.out.c 8 _ rfl
    have z9 := FP.out.c 9 _ rfl
    have z10 := FP.out.c 10 _ rfl
    have z11 := FP.out.c 11 _ rfl
    go_simp
    refine hK.out _ _ (by (try dsimp only); first | exact ⟨F3.out, F4.out⟩ | go_keep) (fun hHeld => ?_)
    clear hK K
    try simp only [Act.put, List.getElem_toArray, List.getElem_cons_succ, List.getElem_cons_zero, List.setIfInBounds_toArray, List.set_cons_zero, List.set_cons_succ]
    refine wpAnyH_ready (rs := [12]) (by kernel_rfl) (by simp) ?_
    refine (AllReadyH.cons rfl (fun K hK => ?_) AllReadyH.nil)
    go_simp
    refine (CB _).mono ?_
    rintro e v_63 ⟨rfl, hb⟩
    have FP : Hid (Blk v_63 pb [.int .i64 h.fl, .int .i64 h.gp, .int .i64 h.ln, .int .i64 h.rf, .int .i64 h.sp, .int .i64 h.pu, .int .i64 h.br, .int .i64 h.dr, .int .i64 h.lv, .int .i64 h.dO, .int .i64 h.ld, .int .i64 h.qu, .int .i64 (massN r), .int .i64 0, .int .i64 s.i, .int .i64 s.o, .int .i64 s.l, .int .i64 c.pos, .int .i64 c.vel, .int .i64 c.door]) := FP.out.below hb FP.out.lt
    have F3 : Hid (Blk v_63 b3 [.pointer (some ⟨pb, 0, none⟩)]) := F3.out.below hb F3.out.lt
    have F4 : Hid (Blk v_63 b4 [.int .i64 x.push, .bool x.brk, .bool x.opn]) := F4.out.below hb F4.out.lt
    have G6 : Hid (Blk v_63 b6 [.int .i64 ec]) := G6.out.below hb G6.out.lt
    have G7 : Hid (Blk v_63 b7 [.func (.func 93) #[.pointer (some ⟨pb, 0, none⟩)] #[]]) := G7.out.below hb G7.out.lt
    have FB : Hid (Below pb w v_63) := FB.out.trans (hb.mono (Nat.le_of_lt (Nat.lt_of_lt_of_le lt0 FB.out.size)))
    clear hb
    try dsimp only
    refine hK.out _ _ (by (try dsimp only); first | exact ⟨F3.out, F4.out⟩ | go_keep) (fun hHeld => ?_)
    clear hK K
    try simp only [Act.put, List.getElem_toArray, List.getElem_cons_succ, List.getElem_cons_zero, List.setIfInBounds_toArray, List.set_cons_zero, List.set_cons_succ]
    refine tkz 13 rfl ?_ (hQ := fun c a w h => leaves_void step_void _ _ _ h)
    refine tkz 14 rfl ?_ (hQ := fun c a w h => leaves_void step_void _ _ _ h)
    refine tkz 15 rfl ?_ (hQ := fun c a w h => leaves_void step_void _ _ _ h)
    refine wpAnyH_ready (rs := [16]) (by kernel_rfl) (by simp) ?_
    refine (AllReadyH.cons rfl (fun K hK => ?_) AllReadyH.nil)
    have z17 := FP.out.c 17 _ rfl
    have z18 := FP.out.c 18 _ rfl
    have z19 := FP.out.c 19 _ rfl
    have zf17 := FP.out.f 17 (Nat.le_of_ble_eq_true rfl)
    have zf18 := FP.out.f 18 (Nat.le_of_ble_eq_true rfl)
    have zf19 := FP.out.f 19 (Nat.le_of_ble_eq_true rfl)
    go_simp
    obtain ⟨v_64, hw2⟩ : ∃ v_64, v_64 = putB v_63 pb 17 [.int .i64 g.pos, .int .i64 g.vel, .int .i64 g.door] := ⟨_, rfl⟩
    change K _ (putB v_63 pb 17 [.int .i64 g.pos, .int .i64 g.vel, .int .i64 g.door])
    rw [← hw2]
    clear z17 z18 z19 zf17 zf18 zf19
    have FP : Hid (Blk v_64 pb [.int .i64 h.fl, .int .i64 h.gp, .int .i64 h.ln, .int .i64 h.rf, .int .i64 h.sp, .int .i64 h.pu, .int .i64 h.br, .int .i64 h.dr, .int .i64 h.lv, .int .i64 h.dO, .int .i64 h.ld, .int .i64 h.qu, .int .i64 (massN r), .int .i64 0, .int .i64 s.i, .int .i64 s.o, .int .i64 s.l, .int .i64 g.pos, .int .i64 g.vel, .int .i64 g.door]) := by rw [hw2]; exact putB_set [.int .i64 g.pos, .int .i64 g.vel, .int .i64 g.door] _ 17 _ FP.out (Nat.le_of_ble_eq_true rfl)
    have F3 : Hid (Blk v_64 b3 [.pointer (some ⟨pb, 0, none⟩)]) := by rw [hw2]; exact Blk.putB_other (by omega) _ 17 F3.out
    have F4 : Hid (Blk v_64 b4 [.int .i64 x.push, .bool x.brk, .bool x.opn]) := by rw [hw2]; exact Blk.putB_other (by omega) _ 17 F4.out
    have G6 : Hid (Blk v_64 b6 [.int .i64 ec]) := by rw [hw2]; exact Blk.putB_other (by omega) _ 17 G6.out
    have G7 : Hid (Blk v_64 b7 [.func (.func 93) #[.pointer (some ⟨pb, 0, none⟩)] #[]]) := by rw [hw2]; exact Blk.putB_other (by omega) _ 17 G7.out
    have FB : Hid (Below pb w v_64) := by rw [hw2]; exact below_putB FB.out (Nat.le_refl _) _ 17
    clear hw2
    refine hK.out _ _ (by (try dsimp only); first | exact ⟨F3.out, F4.out⟩ | go_keep) (fun hHeld => ?_)
    clear hK K
    try simp only [Act.put, List.getElem_toArray, List.getElem_cons_succ, List.getElem_cons_zero, List.setIfInBounds_toArray, List.set_cons_zero, List.set_cons_succ]
    refine wpAnyH_done (by kernel_rfl) ?_ _
    go_wp2
    refine leaves_cons (f := 70) (args := #[.pointer (some ⟨b7, 0, none⟩), .pointer (some ⟨b3, 0, none⟩), .pointer (some ⟨b6, 0, none⟩)]) (by simp) (by simp [go_sem]) ?_
    refine (step1_braked h HO.out g r ec HM.out r1 r3 eb.1 eb.2 s i1 i2 o1 o2 pb b7 b3 b6 n7 n3 n6 _ _ FP.out G7.out F3.out G6.out).mono ?_
    rintro e u' w'' ⟨rfl, rfl, hP, hb⟩
    have FB9 : Below pb w w'' := FB.out.trans hb
    simp only [Leaves, settle]
    exact ⟨_, by simp [results, Try.results49, go_sem], rfl, hP, FB9⟩
set_option maxRecDepth 20000 in
set_option maxHeartbeats 32000000 in
theorem bkStep_pushed (h : Hs) (c : Cs) (x : Cm) (d r : Int) (k : CarOk h c) (x1 : -h.pu ≤ x.push) (x2 : x.push ≤ h.pu) (d1 : -h.dr ≤ d) (d2 : d ≤ h.dr) (r1 : 0 ≤ r) (r2 : r ≤ h.ld) (hx : (x.brk || x.opn) = false) (s : Bk) (i1 : 0 ≤ s.i) (i2 : s.i ≤ 4000000000000000) (o1 : 0 ≤ s.o) (o2 : s.o ≤ 4000000000000000) (g : Cs) (hg : stepC h c x d = g) (ec : Int) (hec : enE h c r = ec) (pb : Nat) (w : World) (h_FP : Blk w pb [.int .i64 h.fl, .int .i64 h.gp, .int .i64 h.ln, .int .i64 h.rf, .int .i64 h.sp, .int .i64 h.pu, .int .i64 h.br, .int .i64 h.dr, .int .i64 h.lv, .int .i64 h.dO, .int .i64 h.ld, .int .i64 h.qu, .int .i64 (massN r), .int .i64 0, .int .i64 s.i, .int .i64 s.o, .int .i64 s.l, .int .i64 c.pos, .int .i64 c.vel, .int .i64 c.door]) :
    Calls Try.prog 49 #[.pointer (some ⟨pb, 0, none⟩), .agg #[.int .i64 x.push, .bool x.brk, .bool x.opn], .int .i64 d] w fun e w' => e = .returned (.tuple #[]) ∧ Blk w' pb [.int .i64 h.fl, .int .i64 h.gp, .int .i64 h.ln, .int .i64 h.rf, .int .i64 h.sp, .int .i64 h.pu, .int .i64 h.br, .int .i64 h.dr, .int .i64 h.lv, .int .i64 h.dO, .int .i64 h.ld, .int .i64 h.qu, .int .i64 (massN r), .int .i64 0, .int .i64 (s.i + max (enE h g r - ec) 0), .int .i64 (s.o + max (-(enE h g r - ec)) 0), .int .i64 s.l, .int .i64 g.pos, .int .i64 g.vel, .int .i64 g.door] ∧ Below pb w w' := by
  have hmf : ∀ (fn : Fn) (first cap : Array Value) (w : World), (Instr.makeFunc fn first cap).run Try.prog w = .ok (.func fn first cap) w := fun _ _ _ _ => rfl
  have r3 : r ≤ 20 := by have := k.ok.ld2; omega
  have HO : Hid h.Ok := k.ok
  have HN : Hid (Nr h c) := nr_of k
  have HM : Hid (Nr h g) := by have q := (step_near (x := x) (d := d) k).1; rw [hg] at q; exact q
  have eb : -500000000000 ≤ ec ∧ ec ≤ 500000000000 := by have q := (nr_of k).en k.ok r1 r3; rw [hec] at q; exact q
  have CE : ∀ W, Blk W pb [.int .i64 h.fl, .int .i64 h.gp, .int .i64 h.ln, .int .i64 h.rf, .int .i64 h.sp, .int .i64 h.pu, .int .i64 h.br, .int .i64 h.dr, .int .i64 h.lv, .int .i64 h.dO, .int .i64 h.ld, .int .i64 h.qu, .int .i64 (massN r), .int .i64 0, .int .i64 s.i, .int .i64 s.o, .int .i64 s.l, .int .i64 c.pos, .int .i64 c.vel, .int .i64 c.door] → Calls Try.prog 68 #[.pointer (some ⟨pb, 0, none⟩)] W fun e w' => e = .returned (.int .i64 ec) ∧ Below W.heap.size W w' := fun W hW => by have q := bkEnergy_any h HO.out c r HN.out r1 r3 s pb W hW; rw [hec] at q; exact q
  have CF : ∀ W, Calls Try.prog 69 #[.pointer (some ⟨pb, 0, none⟩), .agg #[.int .i64 x.push, .bool x.brk, .bool x.opn]] W fun e w' => e = .returned (.func (.func 94) #[.pointer (some ⟨pb, 0, none⟩)] #[]) ∧ Below W.heap.size W w' := fun W => by
    have q := entryFor_any x pb W
    have e : entF x = 94 := by unfold entF; rw [hx]; rfl
    rw [e] at q
    exact q
  have CB : ∀ W, Calls Try.prog 71 #[.agg #[.int .i64 h.fl, .int .i64 h.gp, .int .i64 h.ln, .int .i64 h.rf, .int .i64 h.sp, .int .i64 h.pu, .int .i64 h.br, .int .i64 h.dr, .int .i64 h.lv, .int .i64 h.dO, .int .i64 h.ld, .int .i64 h.qu], .agg #[.int .i64 c.pos, .int .i64 c.vel, .int .i64 c.door], .agg #[.int .i64 x.push, .bool x.brk, .bool x.opn], .int .i64 d] W fun e w' => e = .returned (.agg #[.int .i64 g.pos, .int .i64 g.vel, .int .i64 g.door]) ∧ Below W.heap.size W w' := fun W => carBehind_any h c x d k x1 x2 d1 d2 g hg W
  clear k x1 x2 d1 d2 hx hg hec
  have lt0 := h_FP.lt
  have ltpb := h_FP.lt
  obtain ⟨b3, hb3⟩ : ∃ b3, b3 = w.heap.size := ⟨_, rfl⟩
  obtain ⟨b4, hb4⟩ : ∃ b4, b4 = b3 + 1 := ⟨_, rfl⟩
  obtain ⟨W0, hW0⟩ : ∃ W0, W0 = (w.alloc (.cells #[.pointer (some ⟨pb, 0, none⟩)] 80)).alloc (.cells #[.int .i64 x.push, .bool x.brk, .bool x.opn] 42) := ⟨_, rfl⟩
  have F3 : Hid (Blk W0 b3 [.pointer (some ⟨pb, 0, none⟩)]) := by rw [hW0]; exact ((Blk.at_ _ #[.pointer (some ⟨pb, 0, none⟩)] _ _ hb3).alloc _)
  have F4 : Hid (Blk W0 b4 [.int .i64 x.push, .bool x.brk, .bool x.opn]) := by rw [hW0]; exact (Blk.at_ _ #[.int .i64 x.push, .bool x.brk, .bool x.opn] _ _ (by simp; omega))
  have FP : Hid (Blk W0 pb [.int .i64 h.fl, .int .i64 h.gp, .int .i64 h.ln, .int .i64 h.rf, .int .i64 h.sp, .int .i64 h.pu, .int .i64 h.br, .int .i64 h.dr, .int .i64 h.lv, .int .i64 h.dO, .int .i64 h.ld, .int .i64 h.qu, .int .i64 (massN r), .int .i64 0, .int .i64 s.i, .int .i64 s.o, .int .i64 s.l, .int .i64 c.pos, .int .i64 c.vel, .int .i64 c.door]) := by rw [hW0]; exact ((h_FP.alloc _).alloc _)
  clear h_FP
  have FB : Hid (Below pb w W0) := by rw [hW0]; exact ((((Below.refl _ _).alloc (Nat.le_refl _) _).alloc (by simp) _)).mono (Nat.le_of_lt lt0)
  have leb3 : w.heap.size ≤ b3 := by omega
  have leb4 : w.heap.size ≤ b4 := by omega
  have l01 : b3 < b4 := by omega
  go_enter_defers Try.func49, Try.ntmps49
  go_upto_region 1 with fail
  rw [← hb3, ← hb4, ← hW0]
  clear hb3 hb4 hW0
  have n3 : pb < b3 := by omega
  have n4 : pb < b4 := by omega
  go_cut [6, 7] from 8 to 29 (fun p q wx => ∃ b6 b7, p = .pointer (some ⟨b6, 0, none⟩) ∧ q = .pointer (some ⟨b7, 0, none⟩) ∧ pb < b6 ∧ pb < b7 ∧ Blk wx b6 [.int .i64 ec] ∧ Blk wx b7 [.func (.func 94) #[.pointer (some ⟨pb, 0, none⟩)] #[]] ∧ Blk wx pb [.int .i64 h.fl, .int .i64 h.gp, .int .i64 h.ln, .int .i64 h.rf, .int .i64 h.sp, .int .i64 h.pu, .int .i64 h.br, .int .i64 h.dr, .int .i64 h.lv, .int .i64 h.dO, .int .i64 h.ld, .int .i64 h.qu, .int .i64 (massN r), .int .i64 0, .int .i64 s.i, .int .i64 s.o, .int .i64 s.l, .int .i64 c.pos, .int .i64 c.vel, .int .i64 c.door] ∧ Blk wx b3 [.pointer (some ⟨pb, 0, none⟩)] ∧ Blk wx b4 [.int .i64 x.push, .bool x.brk, .bool x.opn] ∧ Below pb w wx)
  case first =>
    have FP : Hid (Blk W0.drew pb [.int .i64 h.fl, .int .i64 h.gp, .int .i64 h.ln, .int .i64 h.rf, .int .i64 h.sp, .int .i64 h.pu, .int .i64 h.br, .int .i64 h.dr, .int .i64 h.lv, .int .i64 h.dO, .int .i64 h.ld, .int .i64 h.qu, .int .i64 (massN r), .int .i64 0, .int .i64 s.i, .int .i64 s.o, .int .i64 s.l, .int .i64 c.pos, .int .i64 c.vel, .int .i64 c.door]) := FP.out.below (Below.refl _ _).drew FP.out.lt
    have F3 : Hid (Blk W0.drew b3 [.pointer (some ⟨pb, 0, none⟩)]) := F3.out.below (Below.refl _ _).drew F3.out.lt
    have F4 : Hid (Blk W0.drew b4 [.int .i64 x.push, .bool x.brk, .bool x.opn]) := F4.out.below (Below.refl _ _).drew F4.out.lt
    have FB : Hid (Below pb w W0.drew) := FB.out.drew
    refine wp_region_held_drew (S := (fun w'' => Blk w'' b3 ([.pointer (some ⟨pb, 0, none⟩)]) ∧ Blk w'' b4 ([.int .i64 x.push, .bool x.brk, .bool x.opn]))) (by kernel_rfl) (by (try dsimp only); first | exact ⟨F3.out, F4.out⟩ | go_keep) (fun hHeld => ?_)
    obtain ⟨v_65, hw1⟩ : ∃ v_65, v_65 = W0.drew := ⟨_, rfl⟩
    have FP : Hid (Blk v_65 pb [.int .i64 h.fl, .int .i64 h.gp, .int .i64 h.ln, .int .i64 h.rf, .int .i64 h.sp, .int .i64 h.pu, .int .i64 h.br, .int .i64 h.dr, .int .i64 h.lv, .int .i64 h.dO, .int .i64 h.ld, .int .i64 h.qu, .int .i64 (massN r), .int .i64 0, .int .i64 s.i, .int .i64 s.o, .int .i64 s.l, .int .i64 c.pos, .int .i64 c.vel, .int .i64 c.door]) := by rw [hw1]; exact FP.out
    have F3 : Hid (Blk v_65 b3 [.pointer (some ⟨pb, 0, none⟩)]) := by rw [hw1]; exact F3.out
    have F4 : Hid (Blk v_65 b4 [.int .i64 x.push, .bool x.brk, .bool x.opn]) := by rw [hw1]; exact F4.out
    have FB : Hid (Below pb w v_65) := by rw [hw1]; exact FB.out
    rw [← hw1] at hHeld ⊢
    clear hw1
    refine tkz 0 rfl ?_ (hQ := fun c a w h => leaves_void step_void _ _ _ h) (hy := Or.inl ⟨by kernel_rfl, by (intro wx hSw; have hq0_0 := hSw.1.c 0 _ rfl; (try dsimp only at hSw); go_simp <;> with_reducible rfl)⟩)
    refine tkz 2 rfl ?_ (hQ := fun c a w h => leaves_void step_void _ _ _ h) (hy := Or.inl ⟨by kernel_rfl, by (intro wx hSw; have hq0_0 := hSw.1.c 0 _ rfl; (try dsimp only at hSw); go_simp <;> with_reducible rfl)⟩)
    refine tkz 3 rfl ?_ (hQ := fun c a w h => leaves_void step_void _ _ _ h) (hy := Or.inl ⟨by kernel_rfl, fun wx hSw => exec_load_blk 42 _ Try.underlying42 (by kernel_rfl) rfl rfl hSw.2⟩)
    refine wpAnyH_ready (rs := [1, 5, 6]) (by kernel_rfl) (by simp) ?_
    refine (AllReadyH.cons rfl (fun K hK => ?_) (AllReadyH.cons rfl (fun K hK => ?_) (AllReadyH.cons rfl (fun K hK => ?_) AllReadyH.nil)))
    · go_simp
      refine (CE _ FP.out).mono ?_
      rintro e v_66 ⟨rfl, hb⟩
      have FP : Hid (Blk v_66 pb [.int .i64 h.fl, .int .i64 h.gp, .int .i64 h.ln, .int .i64 h.rf, .int .i64 h.sp, .int .i64 h.pu, .int .i64 h.br, .int .i64 h.dr, .int .i64 h.lv, .int .i64 h.dO, .int .i64 h.ld, .int .i64 h.qu, .int .i64 (massN r), .int .i64 0, .int .i64 s.i, .int .i64 s.o, .int .i64 s.l, .int .i64 c.pos, .int .i64 c.vel, .int .i64 c.door]) := FP.out.below hb FP.out.lt
      have F3 : Hid (Blk v_66 b3 [.pointer (some ⟨pb, 0, none⟩)]) := F3.out.below hb F3.out.lt
      have F4 : Hid (Blk v_66 b4 [.int .i64 x.push, .bool x.brk, .bool x.opn]) := F4.out.below hb F4.out.lt
      have FB : Hid (Below pb w v_66) := FB.out.trans (hb.mono (Nat.le_of_lt (Nat.lt_of_lt_of_le lt0 FB.out.size)))
      clear hb
      try dsimp only
      refine hK.out _ _ (by (try dsimp only); first | exact ⟨F3.out, F4.out⟩ | go_keep) (fun hHeld => ?_)
      clear hK K
      try simp only [Act.put, List.getElem_toArray, List.getElem_cons_succ, List.getElem_cons_zero, List.setIfInBounds_toArray, List.set_cons_zero, List.set_cons_succ]
      refine wpAnyH_ready (rs := [4, 5, 6]) (by kernel_rfl) (by simp) ?_
      refine (AllReadyH.cons rfl (fun K hK => ?_) (AllReadyH.cons rfl (fun K hK => ?_) (AllReadyH.cons rfl (fun K hK => ?_) AllReadyH.nil)))
      · go_simp
        refine (CF _).mono ?_
        rintro e v_67 ⟨rfl, hb⟩
        have FP : Hid (Blk v_67 pb [.int .i64 h.fl, .int .i64 h.gp, .int .i64 h.ln, .int .i64 h.rf, .int .i64 h.sp, .int .i64 h.pu, .int .i64 h.br, .int .i64 h.dr, .int .i64 h.lv, .int .i64 h.dO, .int .i64 h.ld, .int .i64 h.qu, .int .i64 (massN r), .int .i64 0, .int .i64 s.i, .int .i64 s.o, .int .i64 s.l, .int .i64 c.pos, .int .i64 c.vel, .int .i64 c.door]) := FP.out.below hb FP.out.lt
        have F3 : Hid (Blk v_67 b3 [.pointer (some ⟨pb, 0, none⟩)]) := F3.out.below hb F3.out.lt
        have F4 : Hid (Blk v_67 b4 [.int .i64 x.push, .bool x.brk, .bool x.opn]) := F4.out.below hb F4.out.lt
        have FB : Hid (Below pb w v_67) := FB.out.trans (hb.mono (Nat.le_of_lt (Nat.lt_of_lt_of_le lt0 FB.out.size)))
        clear hb
        try dsimp only
        refine hK.out _ _ (by (try dsimp only); first | exact ⟨F3.out, F4.out⟩ | go_keep) (fun hHeld => ?_)
        clear hK K
        try simp only [Act.put, List.getElem_toArray, List.getElem_cons_succ, List.getElem_cons_zero, List.setIfInBounds_toArray, List.set_cons_zero, List.set_cons_succ]
        refine wpAnyH_ready (rs := [5, 6]) (by kernel_rfl) (by simp) ?_
        refine (AllReadyH.cons rfl (fun K hK => ?_) (AllReadyH.cons rfl (fun K hK => ?_) AllReadyH.nil))
        · go_simp
          obtain ⟨b6, hbb⟩ : ∃ b6, b6 = v_67.heap.size := ⟨_, rfl⟩
          obtain ⟨v_68, hw2⟩ : ∃ v_68, v_68 = v_67.alloc (.cells #[.int .i64 0] 2) := ⟨_, rfl⟩
          have nb6_0 := FP.out.lt
          rw [← hbb] at nb6_0
          have nb6_1 := F3.out.lt
          rw [← hbb] at nb6_1
          have nb6_2 := F4.out.lt
          rw [← hbb] at nb6_2
          have G6 : Hid (Blk v_68 b6 [.int .i64 0]) := by rw [hw2]; exact Blk.at_ v_67 #[.int .i64 0] _ _ hbb
          have FP : Hid (Blk v_68 pb [.int .i64 h.fl, .int .i64 h.gp, .int .i64 h.ln, .int .i64 h.rf, .int .i64 h.sp, .int .i64 h.pu, .int .i64 h.br, .int .i64 h.dr, .int .i64 h.lv, .int .i64 h.dO, .int .i64 h.ld, .int .i64 h.qu, .int .i64 (massN r), .int .i64 0, .int .i64 s.i, .int .i64 s.o, .int .i64 s.l, .int .i64 c.pos, .int .i64 c.vel, .int .i64 c.door]) := by rw [hw2]; exact FP.out.alloc _
          have F3 : Hid (Blk v_68 b3 [.pointer (some ⟨pb, 0, none⟩)]) := by rw [hw2]; exact F3.out.alloc _
          have F4 : Hid (Blk v_68 b4 [.int .i64 x.push, .bool x.brk, .bool x.opn]) := by rw [hw2]; exact F4.out.alloc _
          have FB : Hid (Below pb w v_68) := by rw [hw2]; exact FB.out.alloc (Nat.le_of_lt (Nat.lt_of_lt_of_le lt0 FB.out.size)) _
          rw [← hw2, ← hbb]
          clear hbb hw2
          refine hK.out _ _ (by (try dsimp only); first | exact ⟨F3.out, F4.out⟩ | go_keep) (fun hHeld => ?_)
          clear hK K
          try simp only [Act.put, List.getElem_toArray, List.getElem_cons_succ, List.getElem_cons_zero, List.setIfInBounds_toArray, List.set_cons_zero, List.set_cons_succ]
          refine wpAnyH_ready (rs := [6]) (by kernel_rfl) (by simp) ?_
          refine (AllReadyH.cons rfl (fun K hK => ?_) AllReadyH.nil)
          go_simp
          obtain ⟨b7, hbb⟩ : ∃ b7, b7 = v_68.heap.size := ⟨_, rfl⟩
          obtain ⟨v_69, hw2⟩ : ∃ v_69, v_69 = v_68.alloc (.cells #[.nilFunc] 82) := ⟨_, rfl⟩
          have nb7_0 := FP.out.lt
          rw [← hbb] at nb7_0
          have nb7_1 := F3.out.lt
          rw [← hbb] at nb7_1
          have nb7_2 := F4.out.lt
          rw [← hbb] at nb7_2
          have nb7_4 := G6.out.lt
          rw [← hbb] at nb7_4
          have G7 : Hid (Blk v_69 b7 [.nilFunc]) := by rw [hw2]; exact Blk.at_ v_68 #[.nilFunc] _ _ hbb
          have FP : Hid (Blk v_69 pb [.int .i64 h.fl, .int .i64 h.gp, .int .i64 h.ln, .int .i64 h.rf, .int .i64 h.sp, .int .i64 h.pu, .int .i64 h.br, .int .i64 h.dr, .int .i64 h.lv, .int .i64 h.dO, .int .i64 h.ld, .int .i64 h.qu, .int .i64 (massN r), .int .i64 0, .int .i64 s.i, .int .i64 s.o, .int .i64 s.l, .int .i64 c.pos, .int .i64 c.vel, .int .i64 c.door]) := by rw [hw2]; exact FP.out.alloc _
          have F3 : Hid (Blk v_69 b3 [.pointer (some ⟨pb, 0, none⟩)]) := by rw [hw2]; exact F3.out.alloc _
          have F4 : Hid (Blk v_69 b4 [.int .i64 x.push, .bool x.brk, .bool x.opn]) := by rw [hw2]; exact F4.out.alloc _
          have FB : Hid (Below pb w v_69) := by rw [hw2]; exact FB.out.alloc (Nat.le_of_lt (Nat.lt_of_lt_of_le lt0 FB.out.size)) _
          have G6 : Hid (Blk v_69 b6 [.int .i64 0]) := by rw [hw2]; exact G6.out.alloc _
          rw [← hw2, ← hbb]
          clear hbb hw2
          refine hK.out _ _ (by (try dsimp only); first | exact ⟨F3.out, F4.out⟩ | go_keep) (fun hHeld => ?_)
          clear hK K
          try simp only [Act.put, List.getElem_toArray, List.getElem_cons_succ, List.getElem_cons_zero, List.setIfInBounds_toArray, List.set_cons_zero, List.set_cons_succ]
          refine wpAnyH_ready (rs := [7]) (by kernel_rfl) (by simp) ?_
          refine (AllReadyH.cons rfl (fun K hK => ?_) AllReadyH.nil)
          have k0 := G6.out.c 0 _ rfl
          have kf0 := G6.out.f 0 (by decide)
          go_simp
          obtain ⟨v_70, hw2⟩ : ∃ v_70, v_70 = putB v_69 b6 0 [.int .i64 ec] := ⟨_, rfl⟩
          change K _ (putB v_69 b6 0 [.int .i64 ec])
          rw [← hw2]
          clear k0 kf0
          have FP : Hid (Blk v_70 pb [.int .i64 h.fl, .int .i64 h.gp, .int .i64 h.ln, .int .i64 h.rf, .int .i64 h.sp, .int .i64 h.pu, .int .i64 h.br, .int .i64 h.dr, .int .i64 h.lv, .int .i64 h.dO, .int .i64 h.ld, .int .i64 h.qu, .int .i64 (massN r), .int .i64 0, .int .i64 s.i, .int .i64 s.o, .int .i64 s.l, .int .i64 c.pos, .int .i64 c.vel, .int .i64 c.door]) := by rw [hw2]; exact Blk.putB_other (by omega) _ 0 FP.out
          have F3 : Hid (Blk v_70 b3 [.pointer (some ⟨pb, 0, none⟩)]) := by rw [hw2]; exact Blk.putB_other (by omega) _ 0 F3.out
          have F4 : Hid (Blk v_70 b4 [.int .i64 x.push, .bool x.brk, .bool x.opn]) := by rw [hw2]; exact Blk.putB_other (by omega) _ 0 F4.out
          have FB : Hid (Below pb w v_70) := by rw [hw2]; exact below_putB FB.out (by omega) _ 0
          have G6 : Hid (Blk v_70 b6 [.int .i64 ec]) := by rw [hw2]; exact G6.out.put [.int .i64 ec] rfl
          have G7 : Hid (Blk v_70 b7 [.nilFunc]) := by rw [hw2]; exact Blk.putB_other (by omega) _ 0 G7.out
          clear hw2
          refine hK.out _ _ (by (try dsimp only); first | exact ⟨F3.out, F4.out⟩ | go_keep) (fun hHeld => ?_)
          clear hK K
          try simp only [Act.put, List.getElem_toArray, List.getElem_cons_succ, List.getElem_cons_zero, List.setIfInBounds_toArray, List.set_cons_zero, List.set_cons_succ]
          refine wpAnyH_ready (rs := [8]) (by kernel_rfl) (by simp) ?_
          refine (AllReadyH.cons rfl (fun K hK => ?_) AllReadyH.nil)
          have k0 := G7.out.c 0 _ rfl
          have kf0 := G7.out.f 0 (by decide)
          go_simp
          obtain ⟨v_71, hw2⟩ : ∃ v_71, v_71 = putB v_70 b7 0 [.func (.func 94) #[.pointer (some ⟨pb, 0, none⟩)] #[]] := ⟨_, rfl⟩
          change K _ (putB v_70 b7 0 [.func (.func 94) #[.pointer (some ⟨pb, 0, none⟩)] #[]])
          rw [← hw2]
          clear k0 kf0
          have FP : Hid (Blk v_71 pb [.int .i64 h.fl, .int .i64 h.gp, .int .i64 h.ln, .int .i64 h.rf, .int .i64 h.sp, .int .i64 h.pu, .int .i64 h.br, .int .i64 h.dr, .int .i64 h.lv, .int .i64 h.dO, .int .i64 h.ld, .int .i64 h.qu, .int .i64 (massN r), .int .i64 0, .int .i64 s.i, .int .i64 s.o, .int .i64 s.l, .int .i64 c.pos, .int .i64 c.vel, .int .i64 c.door]) := by rw [hw2]; exact Blk.putB_other (by omega) _ 0 FP.out
          have F3 : Hid (Blk v_71 b3 [.pointer (some ⟨pb, 0, none⟩)]) := by rw [hw2]; exact Blk.putB_other (by omega) _ 0 F3.out
          have F4 : Hid (Blk v_71 b4 [.int .i64 x.push, .bool x.brk, .bool x.opn]) := by rw [hw2]; exact Blk.putB_other (by omega) _ 0 F4.out
          have FB : Hid (Below pb w v_71) := by rw [hw2]; exact below_putB FB.out (by omega) _ 0
          have G6 : Hid (Blk v_71 b6 [.int .i64 ec]) := by rw [hw2]; exact Blk.putB_other (by omega) _ 0 G6.out
          have G7 : Hid (Blk v_71 b7 [.func (.func 94) #[.pointer (some ⟨pb, 0, none⟩)] #[]]) := by rw [hw2]; exact G7.out.put [.func (.func 94) #[.pointer (some ⟨pb, 0, none⟩)] #[]] rfl
          clear hw2
          refine hK.out _ _ (by (try dsimp only); first | exact ⟨F3.out, F4.out⟩ | go_keep) (fun hHeld => ?_)
          clear hK K
          try simp only [Act.put, List.getElem_toArray, List.getElem_cons_succ, List.getElem_cons_zero, List.setIfInBounds_toArray, List.set_cons_zero, List.set_cons_succ]
          refine wpAnyH_done (by kernel_rfl) ?_ _
          go_wp2_with fail
          go_meet
          case rel => exact ⟨b6, b7, rfl, rfl, by omega, by omega, G6.out, G7.out, FP.out, F3.out, F4.out, FB.out⟩
        · go_simp
          obtain ⟨b7, hbb⟩ : ∃ b7, b7 = v_67.heap.size := ⟨_, rfl⟩
          obtain ⟨v_72, hw2⟩ : ∃ v_72, v_72 = v_67.alloc (.cells #[.nilFunc] 82) := ⟨_, rfl⟩
          have nb7_0 := FP.out.lt
          rw [← hbb] at nb7_0
          have nb7_1 := F3.out.lt
          rw [← hbb] at nb7_1
          have nb7_2 := F4.out.lt
          rw [← hbb] at nb7_2
          have G7 : Hid (Blk v_72 b7 [.nilFunc]) := by rw [hw2]; exact Blk.at_ v_67 #[.nilFunc] _ _ hbb
          have FP : Hid (Blk v_72 pb [.int .i64 h.fl, .int .i64 h.gp, .int .i64 h.ln, .int .i64 h.rf, .int .i64 h.sp, .int .i64 h.pu, .int .i64 h.br, .int .i64 h.dr, .int .i64 h.lv, .int .i64 h.dO, .int .i64 h.ld, .int .i64 h.qu, .int .i64 (massN r), .int .i64 0, .int .i64 s.i, .int .i64 s.o, .int .i64 s.l, .int .i64 c.pos, .int .i64 c.vel, .int .i64 c.door]) := by rw [hw2]; exact FP.out.alloc _
          have F3 : Hid (Blk v_72 b3 [.pointer (some ⟨pb, 0, none⟩)]) := by rw [hw2]; exact F3.out.alloc _
          have F4 : Hid (Blk v_72 b4 [.int .i64 x.push, .bool x.brk, .bool x.opn]) := by rw [hw2]; exact F4.out.alloc _
          have FB : Hid (Below pb w v_72) := by rw [hw2]; exact FB.out.alloc (Nat.le_of_lt (Nat.lt_of_lt_of_le lt0 FB.out.size)) _
          rw [← hw2, ← hbb]
          clear hbb hw2
          refine hK.out _ _ (by (try dsimp only); first | exact ⟨F3.out, F4.out⟩ | go_keep) (fun hHeld => ?_)
          clear hK K
          try simp only [Act.put, List.getElem_toArray, List.getElem_cons_succ, List.getElem_cons_zero, List.setIfInBounds_toArray, List.set_cons_zero, List.set_cons_succ]
          refine wpAnyH_ready (rs := [5]) (by kernel_rfl) (by simp) ?_
          refine (AllReadyH.cons rfl (fun K hK => ?_) AllReadyH.nil)
          go_simp
          obtain ⟨b6, hbb⟩ : ∃ b6, b6 = v_72.heap.size := ⟨_, rfl⟩
          obtain ⟨v_73, hw2⟩ : ∃ v_73, v_73 = v_72.alloc (.cells #[.int .i64 0] 2) := ⟨_, rfl⟩
          have nb6_0 := FP.out.lt
          rw [← hbb] at nb6_0
          have nb6_1 := F3.out.lt
          rw [← hbb] at nb6_1
          have nb6_2 := F4.out.lt
          rw [← hbb] at nb6_2
          have nb6_4 := G7.out.lt
          rw [← hbb] at nb6_4
          have G6 : Hid (Blk v_73 b6 [.int .i64 0]) := by rw [hw2]; exact Blk.at_ v_72 #[.int .i64 0] _ _ hbb
          have FP : Hid (Blk v_73 pb [.int .i64 h.fl, .int .i64 h.gp, .int .i64 h.ln, .int .i64 h.rf, .int .i64 h.sp, .int .i64 h.pu, .int .i64 h.br, .int .i64 h.dr, .int .i64 h.lv, .int .i64 h.dO, .int .i64 h.ld, .int .i64 h.qu, .int .i64 (massN r), .int .i64 0, .int .i64 s.i, .int .i64 s.o, .int .i64 s.l, .int .i64 c.pos, .int .i64 c.vel, .int .i64 c.door]) := by rw [hw2]; exact FP.out.alloc _
          have F3 : Hid (Blk v_73 b3 [.pointer (some ⟨pb, 0, none⟩)]) := by rw [hw2]; exact F3.out.alloc _
          have F4 : Hid (Blk v_73 b4 [.int .i64 x.push, .bool x.brk, .bool x.opn]) := by rw [hw2]; exact F4.out.alloc _
          have FB : Hid (Below pb w v_73) := by rw [hw2]; exact FB.out.alloc (Nat.le_of_lt (Nat.lt_of_lt_of_le lt0 FB.out.size)) _
          have G7 : Hid (Blk v_73 b7 [.nilFunc]) := by rw [hw2]; exact G7.out.alloc _
          rw [← hw2, ← hbb]
          clear hbb hw2
          refine hK.out _ _ (by (try dsimp only); first | exact ⟨F3.out, F4.out⟩ | go_keep) (fun hHeld => ?_)
          clear hK K
          try simp only [Act.put, List.getElem_toArray, List.getElem_cons_succ, List.getElem_cons_zero, List.setIfInBounds_toArray, List.set_cons_zero, List.set_cons_succ]
          refine wpAnyH_ready (rs := [7]) (by kernel_rfl) (by simp) ?_
          refine (AllReadyH.cons rfl (fun K hK => ?_) AllReadyH.nil)
          have k0 := G6.out.c 0 _ rfl
          have kf0 := G6.out.f 0 (by decide)
          go_simp
          obtain ⟨v_74, hw2⟩ : ∃ v_74, v_74 = putB v_73 b6 0 [.int .i64 ec] := ⟨_, rfl⟩
          change K _ (putB v_73 b6 0 [.int .i64 ec])
          rw [← hw2]
          clear k0 kf0
          have FP : Hid (Blk v_74 pb [.int .i64 h.fl, .int .i64 h.gp, .int .i64 h.ln, .int .i64 h.rf, .int .i64 h.sp, .int .i64 h.pu, .int .i64 h.br, .int .i64 h.dr, .int .i64 h.lv, .int .i64 h.dO, .int .i64 h.ld, .int .i64 h.qu, .int .i64 (massN r), .int .i64 0, .int .i64 s.i, .int .i64 s.o, .int .i64 s.l, .int .i64 c.pos, .int .i64 c.vel, .int .i64 c.door]) := by rw [hw2]; exact Blk.putB_other (by omega) _ 0 FP.out
          have F3 : Hid (Blk v_74 b3 [.pointer (some ⟨pb, 0, none⟩)]) := by rw [hw2]; exact Blk.putB_other (by omega) _ 0 F3.out
          have F4 : Hid (Blk v_74 b4 [.int .i64 x.push, .bool x.brk, .bool x.opn]) := by rw [hw2]; exact Blk.putB_other (by omega) _ 0 F4.out
          have FB : Hid (Below pb w v_74) := by rw [hw2]; exact below_putB FB.out (by omega) _ 0
          have G7 : Hid (Blk v_74 b7 [.nilFunc]) := by rw [hw2]; exact Blk.putB_other (by omega) _ 0 G7.out
          have G6 : Hid (Blk v_74 b6 [.int .i64 ec]) := by rw [hw2]; exact G6.out.put [.int .i64 ec] rfl
          clear hw2
          refine hK.out _ _ (by (try dsimp only); first | exact ⟨F3.out, F4.out⟩ | go_keep) (fun hHeld => ?_)
          clear hK K
          try simp only [Act.put, List.getElem_toArray, List.getElem_cons_succ, List.getElem_cons_zero, List.setIfInBounds_toArray, List.set_cons_zero, List.set_cons_succ]
          refine wpAnyH_ready (rs := [8]) (by kernel_rfl) (by simp) ?_
          refine (AllReadyH.cons rfl (fun K hK => ?_) AllReadyH.nil)
          have k0 := G7.out.c 0 _ rfl
          have kf0 := G7.out.f 0 (by decide)
          go_simp
          obtain ⟨v_75, hw2⟩ : ∃ v_75, v_75 = putB v_74 b7 0 [.func (.func 94) #[.pointer (some ⟨pb, 0, none⟩)] #[]] := ⟨_, rfl⟩
          change K _ (putB v_74 b7 0 [.func (.func 94) #[.pointer (some ⟨pb, 0, none⟩)] #[]])
          rw [← hw2]
          clear k0 kf0
          have FP : Hid (Blk v_75 pb [.int .i64 h.fl, .int .i64 h.gp, .int .i64 h.ln, .int .i64 h.rf, .int .i64 h.sp, .int .i64 h.pu, .int .i64 h.br, .int .i64 h.dr, .int .i64 h.lv, .int .i64 h.dO, .int .i64 h.ld, .int .i64 h.qu, .int .i64 (massN r), .int .i64 0, .int .i64 s.i, .int .i64 s.o, .int .i64 s.l, .int .i64 c.pos, .int .i64 c.vel, .int .i64 c.door]) := by rw [hw2]; exact Blk.putB_other (by omega) _ 0 FP.out
          have F3 : Hid (Blk v_75 b3 [.pointer (some ⟨pb, 0, none⟩)]) := by rw [hw2]; exact Blk.putB_other (by omega) _ 0 F3.out
          have F4 : Hid (Blk v_75 b4 [.int .i64 x.push, .bool x.brk, .bool x.opn]) := by rw [hw2]; exact Blk.putB_other (by omega) _ 0 F4.out
          have FB : Hid (Below pb w v_75) := by rw [hw2]; exact below_putB FB.out (by omega) _ 0
          have G7 : Hid (Blk v_75 b7 [.func (.func 94) #[.pointer (some ⟨pb, 0, none⟩)] #[]]) := by rw [hw2]; exact G7.out.put [.func (.func 94) #[.pointer (some ⟨pb, 0, none⟩)] #[]] rfl
          have G6 : Hid (Blk v_75 b6 [.int .i64 ec]) := by rw [hw2]; exact Blk.putB_other (by omega) _ 0 G6.out
          clear hw2
          refine hK.out _ _ (by (try dsimp only); first | exact ⟨F3.out, F4.out⟩ | go_keep) (fun hHeld => ?_)
          clear hK K
          try simp only [Act.put, List.getElem_toArray, List.getElem_cons_succ, List.getElem_cons_zero, List.setIfInBounds_toArray, List.set_cons_zero, List.set_cons_succ]
          refine wpAnyH_done (by kernel_rfl) ?_ _
          go_wp2_with fail
          go_meet
          case rel => exact ⟨b6, b7, rfl, rfl, by omega, by omega, G6.out, G7.out, FP.out, F3.out, F4.out, FB.out⟩
      · go_simp
        obtain ⟨b6, hbb⟩ : ∃ b6, b6 = v_66.heap.size := ⟨_, rfl⟩
        obtain ⟨v_76, hw2⟩ : ∃ v_76, v_76 = v_66.alloc (.cells #[.int .i64 0] 2) := ⟨_, rfl⟩
        have nb6_0 := FP.out.lt
        rw [← hbb] at nb6_0
        have nb6_1 := F3.out.lt
        rw [← hbb] at nb6_1
        have nb6_2 := F4.out.lt
        rw [← hbb] at nb6_2
        have G6 : Hid (Blk v_76 b6 [.int .i64 0]) := by rw [hw2]; exact Blk.at_ v_66 #[.int .i64 0] _ _ hbb
        have FP : Hid (Blk v_76 pb [.int .i64 h.fl, .int .i64 h.gp, .int .i64 h.ln, .int .i64 h.rf, .int .i64 h.sp, .int .i64 h.pu, .int .i64 h.br, .int .i64 h.dr, .int .i64 h.lv, .int .i64 h.dO, .int .i64 h.ld, .int .i64 h.qu, .int .i64 (massN r), .int .i64 0, .int .i64 s.i, .int .i64 s.o, .int .i64 s.l, .int .i64 c.pos, .int .i64 c.vel, .int .i64 c.door]) := by rw [hw2]; exact FP.out.alloc _
        have F3 : Hid (Blk v_76 b3 [.pointer (some ⟨pb, 0, none⟩)]) := by rw [hw2]; exact F3.out.alloc _
        have F4 : Hid (Blk v_76 b4 [.int .i64 x.push, .bool x.brk, .bool x.opn]) := by rw [hw2]; exact F4.out.alloc _
        have FB : Hid (Below pb w v_76) := by rw [hw2]; exact FB.out.alloc (Nat.le_of_lt (Nat.lt_of_lt_of_le lt0 FB.out.size)) _
        rw [← hw2, ← hbb]
        clear hbb hw2
        refine hK.out _ _ (by (try dsimp only); first | exact ⟨F3.out, F4.out⟩ | go_keep) (fun hHeld => ?_)
        clear hK K
        try simp only [Act.put, List.getElem_toArray, List.getElem_cons_succ, List.getElem_cons_zero, List.setIfInBounds_toArray, List.set_cons_zero, List.set_cons_succ]
        refine wpAnyH_ready (rs := [4, 6]) (by kernel_rfl) (by simp) ?_
        refine (AllReadyH.cons rfl (fun K hK => ?_) (AllReadyH.cons rfl (fun K hK => ?_) AllReadyH.nil))
        · go_simp
          refine (CF _).mono ?_
          rintro e v_77 ⟨rfl, hb⟩
          have FP : Hid (Blk v_77 pb [.int .i64 h.fl, .int .i64 h.gp, .int .i64 h.ln, .int .i64 h.rf, .int .i64 h.sp, .int .i64 h.pu, .int .i64 h.br, .int .i64 h.dr, .int .i64 h.lv, .int .i64 h.dO, .int .i64 h.ld, .int .i64 h.qu, .int .i64 (massN r), .int .i64 0, .int .i64 s.i, .int .i64 s.o, .int .i64 s.l, .int .i64 c.pos, .int .i64 c.vel, .int .i64 c.door]) := FP.out.below hb FP.out.lt
          have F3 : Hid (Blk v_77 b3 [.pointer (some ⟨pb, 0, none⟩)]) := F3.out.below hb F3.out.lt
          have F4 : Hid (Blk v_77 b4 [.int .i64 x.push, .bool x.brk, .bool x.opn]) := F4.out.below hb F4.out.lt
          have FB : Hid (Below pb w v_77) := FB.out.trans (hb.mono (Nat.le_of_lt (Nat.lt_of_lt_of_le lt0 FB.out.size)))
          have G6 : Hid (Blk v_77 b6 [.int .i64 0]) := G6.out.below hb G6.out.lt
          clear hb
          try dsimp only
          refine hK.out _ _ (by (try dsimp only); first | exact ⟨F3.out, F4.out⟩ | go_keep) (fun hHeld => ?_)
          clear hK K
          try simp only [Act.put, List.getElem_toArray, List.getElem_cons_succ, List.getElem_cons_zero, List.setIfInBounds_toArray, List.set_cons_zero, List.set_cons_succ]
          refine wpAnyH_ready (rs := [6]) (by kernel_rfl) (by simp) ?_
          refine (AllReadyH.cons rfl (fun K hK => ?_) AllReadyH.nil)
          go_simp
          obtain ⟨b7, hbb⟩ : ∃ b7, b7 = v_77.heap.size := ⟨_, rfl⟩
          obtain ⟨v_78, hw2⟩ : ∃ v_78, v_78 = v_77.alloc (.cells #[.nilFunc] 82) := ⟨_, rfl⟩
          have nb7_0 := FP.out.lt
          rw [← hbb] at nb7_0
          have nb7_1 := F3.out.lt
          rw [← hbb] at nb7_1
          have nb7_2 := F4.out.lt
          rw [← hbb] at nb7_2
          have nb7_4 := G6.out.lt
          rw [← hbb] at nb7_4
          have G7 : Hid (Blk v_78 b7 [.nilFunc]) := by rw [hw2]; exact Blk.at_ v_77 #[.nilFunc] _ _ hbb
          have FP : Hid (Blk v_78 pb [.int .i64 h.fl, .int .i64 h.gp, .int .i64 h.ln, .int .i64 h.rf, .int .i64 h.sp, .int .i64 h.pu, .int .i64 h.br, .int .i64 h.dr, .int .i64 h.lv, .int .i64 h.dO, .int .i64 h.ld, .int .i64 h.qu, .int .i64 (massN r), .int .i64 0, .int .i64 s.i, .int .i64 s.o, .int .i64 s.l, .int .i64 c.pos, .int .i64 c.vel, .int .i64 c.door]) := by rw [hw2]; exact FP.out.alloc _
          have F3 : Hid (Blk v_78 b3 [.pointer (some ⟨pb, 0, none⟩)]) := by rw [hw2]; exact F3.out.alloc _
          have F4 : Hid (Blk v_78 b4 [.int .i64 x.push, .bool x.brk, .bool x.opn]) := by rw [hw2]; exact F4.out.alloc _
          have FB : Hid (Below pb w v_78) := by rw [hw2]; exact FB.out.alloc (Nat.le_of_lt (Nat.lt_of_lt_of_le lt0 FB.out.size)) _
          have G6 : Hid (Blk v_78 b6 [.int .i64 0]) := by rw [hw2]; exact G6.out.alloc _
          rw [← hw2, ← hbb]
          clear hbb hw2
          refine hK.out _ _ (by (try dsimp only); first | exact ⟨F3.out, F4.out⟩ | go_keep) (fun hHeld => ?_)
          clear hK K
          try simp only [Act.put, List.getElem_toArray, List.getElem_cons_succ, List.getElem_cons_zero, List.setIfInBounds_toArray, List.set_cons_zero, List.set_cons_succ]
          refine wpAnyH_ready (rs := [7]) (by kernel_rfl) (by simp) ?_
          refine (AllReadyH.cons rfl (fun K hK => ?_) AllReadyH.nil)
          have k0 := G6.out.c 0 _ rfl
          have kf0 := G6.out.f 0 (by decide)
          go_simp
          obtain ⟨v_79, hw2⟩ : ∃ v_79, v_79 = putB v_78 b6 0 [.int .i64 ec] := ⟨_, rfl⟩
          change K _ (putB v_78 b6 0 [.int .i64 ec])
          rw [← hw2]
          clear k0 kf0
          have FP : Hid (Blk v_79 pb [.int .i64 h.fl, .int .i64 h.gp, .int .i64 h.ln, .int .i64 h.rf, .int .i64 h.sp, .int .i64 h.pu, .int .i64 h.br, .int .i64 h.dr, .int .i64 h.lv, .int .i64 h.dO, .int .i64 h.ld, .int .i64 h.qu, .int .i64 (massN r), .int .i64 0, .int .i64 s.i, .int .i64 s.o, .int .i64 s.l, .int .i64 c.pos, .int .i64 c.vel, .int .i64 c.door]) := by rw [hw2]; exact Blk.putB_other (by omega) _ 0 FP.out
          have F3 : Hid (Blk v_79 b3 [.pointer (some ⟨pb, 0, none⟩)]) := by rw [hw2]; exact Blk.putB_other (by omega) _ 0 F3.out
          have F4 : Hid (Blk v_79 b4 [.int .i64 x.push, .bool x.brk, .bool x.opn]) := by rw [hw2]; exact Blk.putB_other (by omega) _ 0 F4.out
          have FB : Hid (Below pb w v_79) := by rw [hw2]; exact below_putB FB.out (by omega) _ 0
          have G6 : Hid (Blk v_79 b6 [.int .i64 ec]) := by rw [hw2]; exact G6.out.put [.int .i64 ec] rfl
          have G7 : Hid (Blk v_79 b7 [.nilFunc]) := by rw [hw2]; exact Blk.putB_other (by omega) _ 0 G7.out
          clear hw2
          refine hK.out _ _ (by (try dsimp only); first | exact ⟨F3.out, F4.out⟩ | go_keep) (fun hHeld => ?_)
          clear hK K
          try simp only [Act.put, List.getElem_toArray, List.getElem_cons_succ, List.getElem_cons_zero, List.setIfInBounds_toArray, List.set_cons_zero, List.set_cons_succ]
          refine wpAnyH_ready (rs := [8]) (by kernel_rfl) (by simp) ?_
          refine (AllReadyH.cons rfl (fun K hK => ?_) AllReadyH.nil)
          have k0 := G7.out.c 0 _ rfl
          have kf0 := G7.out.f 0 (by decide)
          go_simp
          obtain ⟨v_80, hw2⟩ : ∃ v_80, v_80 = putB v_79 b7 0 [.func (.func 94) #[.pointer (some ⟨pb, 0, none⟩)] #[]] := ⟨_, rfl⟩
          change K _ (putB v_79 b7 0 [.func (.func 94) #[.pointer (some ⟨pb, 0, none⟩)] #[]])
          rw [← hw2]
          clear k0 kf0
          have FP : Hid (Blk v_80 pb [.int .i64 h.fl, .int .i64 h.gp, .int .i64 h.ln, .int .i64 h.rf, .int .i64 h.sp, .int .i64 h.pu, .int .i64 h.br, .int .i64 h.dr, .int .i64 h.lv, .int .i64 h.dO, .int .i64 h.ld, .int .i64 h.qu, .int .i64 (massN r), .int .i64 0, .int .i64 s.i, .int .i64 s.o, .int .i64 s.l, .int .i64 c.pos, .int .i64 c.vel, .int .i64 c.door]) := by rw [hw2]; exact Blk.putB_other (by omega) _ 0 FP.out
          have F3 : Hid (Blk v_80 b3 [.pointer (some ⟨pb, 0, none⟩)]) := by rw [hw2]; exact Blk.putB_other (by omega) _ 0 F3.out
          have F4 : Hid (Blk v_80 b4 [.int .i64 x.push, .bool x.brk, .bool x.opn]) := by rw [hw2]; exact Blk.putB_other (by omega) _ 0 F4.out
          have FB : Hid (Below pb w v_80) := by rw [hw2]; exact below_putB FB.out (by omega) _ 0
          have G6 : Hid (Blk v_80 b6 [.int .i64 ec]) := by rw [hw2]; exact Blk.putB_other (by omega) _ 0 G6.out
          have G7 : Hid (Blk v_80 b7 [.func (.func 94) #[.pointer (some ⟨pb, 0, none⟩)] #[]]) := by rw [hw2]; exact G7.out.put [.func (.func 94) #[.pointer (some ⟨pb, 0, none⟩)] #[]] rfl
          clear hw2
          refine hK.out _ _ (by (try dsimp only); first | exact ⟨F3.out, F4.out⟩ | go_keep) (fun hHeld => ?_)
          clear hK K
          try simp only [Act.put, List.getElem_toArray, List.getElem_cons_succ, List.getElem_cons_zero, List.setIfInBounds_toArray, List.set_cons_zero, List.set_cons_succ]
          refine wpAnyH_done (by kernel_rfl) ?_ _
          go_wp2_with fail
          go_meet
          case rel => exact ⟨b6, b7, rfl, rfl, by omega, by omega, G6.out, G7.out, FP.out, F3.out, F4.out, FB.out⟩
        · go_simp
          obtain ⟨b7, hbb⟩ : ∃ b7, b7 = v_76.heap.size := ⟨_, rfl⟩
          obtain ⟨v_81, hw2⟩ : ∃ v_81, v_81 = v_76.alloc (.cells #[.nilFunc] 82) := ⟨_, rfl⟩
          have nb7_0 := FP.out.lt
          rw [← hbb] at nb7_0
          have nb7_1 := F3.out.lt
          rw [← hbb] at nb7_1
          have nb7_2 := F4.out.lt
          rw [← hbb] at nb7_2
          have nb7_4 := G6.out.lt
          rw [← hbb] at nb7_4
          have G7 : Hid (Blk v_81 b7 [.nilFunc]) := by rw [hw2]; exact Blk.at_ v_76 #[.nilFunc] _ _ hbb
          have FP : Hid (Blk v_81 pb [.int .i64 h.fl, .int .i64 h.gp, .int .i64 h.ln, .int .i64 h.rf, .int .i64 h.sp, .int .i64 h.pu, .int .i64 h.br, .int .i64 h.dr, .int .i64 h.lv, .int .i64 h.dO, .int .i64 h.ld, .int .i64 h.qu, .int .i64 (massN r), .int .i64 0, .int .i64 s.i, .int .i64 s.o, .int .i64 s.l, .int .i64 c.pos, .int .i64 c.vel, .int .i64 c.door]) := by rw [hw2]; exact FP.out.alloc _
          have F3 : Hid (Blk v_81 b3 [.pointer (some ⟨pb, 0, none⟩)]) := by rw [hw2]; exact F3.out.alloc _
          have F4 : Hid (Blk v_81 b4 [.int .i64 x.push, .bool x.brk, .bool x.opn]) := by rw [hw2]; exact F4.out.alloc _
          have FB : Hid (Below pb w v_81) := by rw [hw2]; exact FB.out.alloc (Nat.le_of_lt (Nat.lt_of_lt_of_le lt0 FB.out.size)) _
          have G6 : Hid (Blk v_81 b6 [.int .i64 0]) := by rw [hw2]; exact G6.out.alloc _
          rw [← hw2, ← hbb]
          clear hbb hw2
          refine hK.out _ _ (by (try dsimp only); first | exact ⟨F3.out, F4.out⟩ | go_keep) (fun hHeld => ?_)
          clear hK K
          try simp only [Act.put, List.getElem_toArray, List.getElem_cons_succ, List.getElem_cons_zero, List.setIfInBounds_toArray, List.set_cons_zero, List.set_cons_succ]
          refine wpAnyH_ready (rs := [4]) (by kernel_rfl) (by simp) ?_
          refine (AllReadyH.cons rfl (fun K hK => ?_) AllReadyH.nil)
          go_simp
          refine (CF _).mono ?_
          rintro e v_82 ⟨rfl, hb⟩
          have FP : Hid (Blk v_82 pb [.int .i64 h.fl, .int .i64 h.gp, .int .i64 h.ln, .int .i64 h.rf, .int .i64 h.sp, .int .i64 h.pu, .int .i64 h.br, .int .i64 h.dr, .int .i64 h.lv, .int .i64 h.dO, .int .i64 h.ld, .int .i64 h.qu, .int .i64 (massN r), .int .i64 0, .int .i64 s.i, .int .i64 s.o, .int .i64 s.l, .int .i64 c.pos, .int .i64 c.vel, .int .i64 c.door]) := FP.out.below hb FP.out.lt
          have F3 : Hid (Blk v_82 b3 [.pointer (some ⟨pb, 0, none⟩)]) := F3.out.below hb F3.out.lt
          have F4 : Hid (Blk v_82 b4 [.int .i64 x.push, .bool x.brk, .bool x.opn]) := F4.out.below hb F4.out.lt
          have FB : Hid (Below pb w v_82) := FB.out.trans (hb.mono (Nat.le_of_lt (Nat.lt_of_lt_of_le lt0 FB.out.size)))
          have G6 : Hid (Blk v_82 b6 [.int .i64 0]) := G6.out.below hb G6.out.lt
          have G7 : Hid (Blk v_82 b7 [.nilFunc]) := G7.out.below hb G7.out.lt
          clear hb
          try dsimp only
          refine hK.out _ _ (by (try dsimp only); first | exact ⟨F3.out, F4.out⟩ | go_keep) (fun hHeld => ?_)
          clear hK K
          try simp only [Act.put, List.getElem_toArray, List.getElem_cons_succ, List.getElem_cons_zero, List.setIfInBounds_toArray, List.set_cons_zero, List.set_cons_succ]
          refine wpAnyH_ready (rs := [7]) (by kernel_rfl) (by simp) ?_
          refine (AllReadyH.cons rfl (fun K hK => ?_) AllReadyH.nil)
          have k0 := G6.out.c 0 _ rfl
          have kf0 := G6.out.f 0 (by decide)
          go_simp
          obtain ⟨v_83, hw2⟩ : ∃ v_83, v_83 = putB v_82 b6 0 [.int .i64 ec] := ⟨_, rfl⟩
          change K _ (putB v_82 b6 0 [.int .i64 ec])
          rw [← hw2]
          clear k0 kf0
          have FP : Hid (Blk v_83 pb [.int .i64 h.fl, .int .i64 h.gp, .int .i64 h.ln, .int .i64 h.rf, .int .i64 h.sp, .int .i64 h.pu, .int .i64 h.br, .int .i64 h.dr, .int .i64 h.lv, .int .i64 h.dO, .int .i64 h.ld, .int .i64 h.qu, .int .i64 (massN r), .int .i64 0, .int .i64 s.i, .int .i64 s.o, .int .i64 s.l, .int .i64 c.pos, .int .i64 c.vel, .int .i64 c.door]) := by rw [hw2]; exact Blk.putB_other (by omega) _ 0 FP.out
          have F3 : Hid (Blk v_83 b3 [.pointer (some ⟨pb, 0, none⟩)]) := by rw [hw2]; exact Blk.putB_other (by omega) _ 0 F3.out
          have F4 : Hid (Blk v_83 b4 [.int .i64 x.push, .bool x.brk, .bool x.opn]) := by rw [hw2]; exact Blk.putB_other (by omega) _ 0 F4.out
          have FB : Hid (Below pb w v_83) := by rw [hw2]; exact below_putB FB.out (by omega) _ 0
          have G6 : Hid (Blk v_83 b6 [.int .i64 ec]) := by rw [hw2]; exact G6.out.put [.int .i64 ec] rfl
          have G7 : Hid (Blk v_83 b7 [.nilFunc]) := by rw [hw2]; exact Blk.putB_other (by omega) _ 0 G7.out
          clear hw2
          refine hK.out _ _ (by (try dsimp only); first | exact ⟨F3.out, F4.out⟩ | go_keep) (fun hHeld => ?_)
          clear hK K
          try simp only [Act.put, List.getElem_toArray, List.getElem_cons_succ, List.getElem_cons_zero, List.setIfInBounds_toArray, List.set_cons_zero, List.set_cons_succ]
          refine wpAnyH_ready (rs := [8]) (by kernel_rfl) (by simp) ?_
          refine (AllReadyH.cons rfl (fun K hK => ?_) AllReadyH.nil)
          have k0 := G7.out.c 0 _ rfl
          have kf0 := G7.out.f 0 (by decide)
          go_simp
          obtain ⟨v_84, hw2⟩ : ∃ v_84, v_84 = putB v_83 b7 0 [.func (.func 94) #[.pointer (some ⟨pb, 0, none⟩)] #[]] := ⟨_, rfl⟩
          change K _ (putB v_83 b7 0 [.func (.func 94) #[.pointer (some ⟨pb, 0, none⟩)] #[]])
          rw [← hw2]
          clear k0 kf0
          have FP : Hid (Blk v_84 pb [.int .i64 h.fl, .int .i64 h.gp, .int .i64 h.ln, .int .i64 h.rf, .int .i64 h.sp, .int .i64 h.pu, .int .i64 h.br, .int .i64 h.dr, .int .i64 h.lv, .int .i64 h.dO, .int .i64 h.ld, .int .i64 h.qu, .int .i64 (massN r), .int .i64 0, .int .i64 s.i, .int .i64 s.o, .int .i64 s.l, .int .i64 c.pos, .int .i64 c.vel, .int .i64 c.door]) := by rw [hw2]; exact Blk.putB_other (by omega) _ 0 FP.out
          have F3 : Hid (Blk v_84 b3 [.pointer (some ⟨pb, 0, none⟩)]) := by rw [hw2]; exact Blk.putB_other (by omega) _ 0 F3.out
          have F4 : Hid (Blk v_84 b4 [.int .i64 x.push, .bool x.brk, .bool x.opn]) := by rw [hw2]; exact Blk.putB_other (by omega) _ 0 F4.out
          have FB : Hid (Below pb w v_84) := by rw [hw2]; exact below_putB FB.out (by omega) _ 0
          have G6 : Hid (Blk v_84 b6 [.int .i64 ec]) := by rw [hw2]; exact Blk.putB_other (by omega) _ 0 G6.out
          have G7 : Hid (Blk v_84 b7 [.func (.func 94) #[.pointer (some ⟨pb, 0, none⟩)] #[]]) := by rw [hw2]; exact G7.out.put [.func (.func 94) #[.pointer (some ⟨pb, 0, none⟩)] #[]] rfl
          clear hw2
          refine hK.out _ _ (by (try dsimp only); first | exact ⟨F3.out, F4.out⟩ | go_keep) (fun hHeld => ?_)
          clear hK K
          try simp only [Act.put, List.getElem_toArray, List.getElem_cons_succ, List.getElem_cons_zero, List.setIfInBounds_toArray, List.set_cons_zero, List.set_cons_succ]
          refine wpAnyH_done (by kernel_rfl) ?_ _
          go_wp2_with fail
          go_meet
          case rel => exact ⟨b6, b7, rfl, rfl, by omega, by omega, G6.out, G7.out, FP.out, F3.out, F4.out, FB.out⟩
      · go_simp
        obtain ⟨b7, hbb⟩ : ∃ b7, b7 = v_66.heap.size := ⟨_, rfl⟩
        obtain ⟨v_85, hw2⟩ : ∃ v_85, v_85 = v_66.alloc (.cells #[.nilFunc] 82) := ⟨_, rfl⟩
        have nb7_0 := FP.out.lt
        rw [← hbb] at nb7_0
        have nb7_1 := F3.out.lt
        rw [← hbb] at nb7_1
        have nb7_2 := F4.out.lt
        rw [← hbb] at nb7_2
        have G7 : Hid (Blk v_85 b7 [.nilFunc]) := by rw [hw2]; exact Blk.at_ v_66 #[.nilFunc] _ _ hbb
        have FP : Hid (Blk v_85 pb [.int .i64 h.fl, .int .i64 h.gp, .int .i64 h.ln, .int .i64 h.rf, .int .i64 h.sp, .int .i64 h.pu, .int .i64 h.br, .int .i64 h.dr, .int .i64 h.lv, .int .i64 h.dO, .int .i64 h.ld, .int .i64 h.qu, .int .i64 (massN r), .int .i64 0, .int .i64 s.i, .int .i64 s.o, .int .i64 s.l, .int .i64 c.pos, .int .i64 c.vel, .int .i64 c.door]) := by rw [hw2]; exact FP.out.alloc _
        have F3 : Hid (Blk v_85 b3 [.pointer (some ⟨pb, 0, none⟩)]) := by rw [hw2]; exact F3.out.alloc _
        have F4 : Hid (Blk v_85 b4 [.int .i64 x.push, .bool x.brk, .bool x.opn]) := by rw [hw2]; exact F4.out.alloc _
        have FB : Hid (Below pb w v_85) := by rw [hw2]; exact FB.out.alloc (Nat.le_of_lt (Nat.lt_of_lt_of_le lt0 FB.out.size)) _
        rw [← hw2, ← hbb]
        clear hbb hw2
        refine hK.out _ _ (by (try dsimp only); first | exact ⟨F3.out, F4.out⟩ | go_keep) (fun hHeld => ?_)
        clear hK K
        try simp only [Act.put, List.getElem_toArray, List.getElem_cons_succ, List.getElem_cons_zero, List.setIfInBounds_toArray, List.set_cons_zero, List.set_cons_succ]
        refine wpAnyH_ready (rs := [4, 5]) (by kernel_rfl) (by simp) ?_
        refine (AllReadyH.cons rfl (fun K hK => ?_) (AllReadyH.cons rfl (fun K hK => ?_) AllReadyH.nil))
        · go_simp
          refine (CF _).mono ?_
          rintro e v_86 ⟨rfl, hb⟩
          have FP : Hid (Blk v_86 pb [.int .i64 h.fl, .int .i64 h.gp, .int .i64 h.ln, .int .i64 h.rf, .int .i64 h.sp, .int .i64 h.pu, .int .i64 h.br, .int .i64 h.dr, .int .i64 h.lv, .int .i64 h.dO, .int .i64 h.ld, .int .i64 h.qu, .int .i64 (massN r), .int .i64 0, .int .i64 s.i, .int .i64 s.o, .int .i64 s.l, .int .i64 c.pos, .int .i64 c.vel, .int .i64 c.door]) := FP.out.below hb FP.out.lt
          have F3 : Hid (Blk v_86 b3 [.pointer (some ⟨pb, 0, none⟩)]) := F3.out.below hb F3.out.lt
          have F4 : Hid (Blk v_86 b4 [.int .i64 x.push, .bool x.brk, .bool x.opn]) := F4.out.below hb F4.out.lt
          have FB : Hid (Below pb w v_86) := FB.out.trans (hb.mono (Nat.le_of_lt (Nat.lt_of_lt_of_le lt0 FB.out.size)))
          have G7 : Hid (Blk v_86 b7 [.nilFunc]) := G7.out.below hb G7.out.lt
          clear hb
          try dsimp only
          refine hK.out _ _ (by (try dsimp only); first | exact ⟨F3.out, F4.out⟩ | go_keep) (fun hHeld => ?_)
          clear hK K
          try simp only [Act.put, List.getElem_toArray, List.getElem_cons_succ, List.getElem_cons_zero, List.setIfInBounds_toArray, List.set_cons_zero, List.set_cons_succ]
          refine wpAnyH_ready (rs := [5]) (by kernel_rfl) (by simp) ?_
          refine (AllReadyH.cons rfl (fun K hK => ?_) AllReadyH.nil)
          go_simp
          obtain ⟨b6, hbb⟩ : ∃ b6, b6 = v_86.heap.size := ⟨_, rfl⟩
          obtain ⟨v_87, hw2⟩ : ∃ v_87, v_87 = v_86.alloc (.cells #[.int .i64 0] 2) := ⟨_, rfl⟩
          have nb6_0 := FP.out.lt
          rw [← hbb] at nb6_0
          have nb6_1 := F3.out.lt
          rw [← hbb] at nb6_1
          have nb6_2 := F4.out.lt
          rw [← hbb] at nb6_2
          have nb6_4 := G7.out.lt
          rw [← hbb] at nb6_4
          have G6 : Hid (Blk v_87 b6 [.int .i64 0]) := by rw [hw2]; exact Blk.at_ v_86 #[.int .i64 0] _ _ hbb
          have FP : Hid (Blk v_87 pb [.int .i64 h.fl, .int .i64 h.gp, .int .i64 h.ln, .int .i64 h.rf, .int .i64 h.sp, .int .i64 h.pu, .int .i64 h.br, .int .i64 h.dr, .int .i64 h.lv, .int .i64 h.dO, .int .i64 h.ld, .int .i64 h.qu, .int .i64 (massN r), .int .i64 0, .int .i64 s.i, .int .i64 s.o, .int .i64 s.l, .int .i64 c.pos, .int .i64 c.vel, .int .i64 c.door]) := by rw [hw2]; exact FP.out.alloc _
          have F3 : Hid (Blk v_87 b3 [.pointer (some ⟨pb, 0, none⟩)]) := by rw [hw2]; exact F3.out.alloc _
          have F4 : Hid (Blk v_87 b4 [.int .i64 x.push, .bool x.brk, .bool x.opn]) := by rw [hw2]; exact F4.out.alloc _
          have FB : Hid (Below pb w v_87) := by rw [hw2]; exact FB.out.alloc (Nat.le_of_lt (Nat.lt_of_lt_of_le lt0 FB.out.size)) _
          have G7 : Hid (Blk v_87 b7 [.nilFunc]) := by rw [hw2]; exact G7.out.alloc _
          rw [← hw2, ← hbb]
          clear hbb hw2
          refine hK.out _ _ (by (try dsimp only); first | exact ⟨F3.out, F4.out⟩ | go_keep) (fun hHeld => ?_)
          clear hK K
          try simp only [Act.put, List.getElem_toArray, List.getElem_cons_succ, List.getElem_cons_zero, List.setIfInBounds_toArray, List.set_cons_zero, List.set_cons_succ]
          refine wpAnyH_ready (rs := [7]) (by kernel_rfl) (by simp) ?_
          refine (AllReadyH.cons rfl (fun K hK => ?_) AllReadyH.nil)
          have k0 := G6.out.c 0 _ rfl
          have kf0 := G6.out.f 0 (by decide)
          go_simp
          obtain ⟨v_88, hw2⟩ : ∃ v_88, v_88 = putB v_87 b6 0 [.int .i64 ec] := ⟨_, rfl⟩
          change K _ (putB v_87 b6 0 [.int .i64 ec])
          rw [← hw2]
          clear k0 kf0
          have FP : Hid (Blk v_88 pb [.int .i64 h.fl, .int .i64 h.gp, .int .i64 h.ln, .int .i64 h.rf, .int .i64 h.sp, .int .i64 h.pu, .int .i64 h.br, .int .i64 h.dr, .int .i64 h.lv, .int .i64 h.dO, .int .i64 h.ld, .int .i64 h.qu, .int .i64 (massN r), .int .i64 0, .int .i64 s.i, .int .i64 s.o, .int .i64 s.l, .int .i64 c.pos, .int .i64 c.vel, .int .i64 c.door]) := by rw [hw2]; exact Blk.putB_other (by omega) _ 0 FP.out
          have F3 : Hid (Blk v_88 b3 [.pointer (some ⟨pb, 0, none⟩)]) := by rw [hw2]; exact Blk.putB_other (by omega) _ 0 F3.out
          have F4 : Hid (Blk v_88 b4 [.int .i64 x.push, .bool x.brk, .bool x.opn]) := by rw [hw2]; exact Blk.putB_other (by omega) _ 0 F4.out
          have FB : Hid (Below pb w v_88) := by rw [hw2]; exact below_putB FB.out (by omega) _ 0
          have G7 : Hid (Blk v_88 b7 [.nilFunc]) := by rw [hw2]; exact Blk.putB_other (by omega) _ 0 G7.out
          have G6 : Hid (Blk v_88 b6 [.int .i64 ec]) := by rw [hw2]; exact G6.out.put [.int .i64 ec] rfl
          clear hw2
          refine hK.out _ _ (by (try dsimp only); first | exact ⟨F3.out, F4.out⟩ | go_keep) (fun hHeld => ?_)
          clear hK K
          try simp only [Act.put, List.getElem_toArray, List.getElem_cons_succ, List.getElem_cons_zero, List.setIfInBounds_toArray, List.set_cons_zero, List.set_cons_succ]
          refine wpAnyH_ready (rs := [8]) (by kernel_rfl) (by simp) ?_
          refine (AllReadyH.cons rfl (fun K hK => ?_) AllReadyH.nil)
          have k0 := G7.out.c 0 _ rfl
          have kf0 := G7.out.f 0 (by decide)
          go_simp
          obtain ⟨v_89, hw2⟩ : ∃ v_89, v_89 = putB v_88 b7 0 [.func (.func 94) #[.pointer (some ⟨pb, 0, none⟩)] #[]] := ⟨_, rfl⟩
          change K _ (putB v_88 b7 0 [.func (.func 94) #[.pointer (some ⟨pb, 0, none⟩)] #[]])
          rw [← hw2]
          clear k0 kf0
          have FP : Hid (Blk v_89 pb [.int .i64 h.fl, .int .i64 h.gp, .int .i64 h.ln, .int .i64 h.rf, .int .i64 h.sp, .int .i64 h.pu, .int .i64 h.br, .int .i64 h.dr, .int .i64 h.lv, .int .i64 h.dO, .int .i64 h.ld, .int .i64 h.qu, .int .i64 (massN r), .int .i64 0, .int .i64 s.i, .int .i64 s.o, .int .i64 s.l, .int .i64 c.pos, .int .i64 c.vel, .int .i64 c.door]) := by rw [hw2]; exact Blk.putB_other (by omega) _ 0 FP.out
          have F3 : Hid (Blk v_89 b3 [.pointer (some ⟨pb, 0, none⟩)]) := by rw [hw2]; exact Blk.putB_other (by omega) _ 0 F3.out
          have F4 : Hid (Blk v_89 b4 [.int .i64 x.push, .bool x.brk, .bool x.opn]) := by rw [hw2]; exact Blk.putB_other (by omega) _ 0 F4.out
          have FB : Hid (Below pb w v_89) := by rw [hw2]; exact below_putB FB.out (by omega) _ 0
          have G7 : Hid (Blk v_89 b7 [.func (.func 94) #[.pointer (some ⟨pb, 0, none⟩)] #[]]) := by rw [hw2]; exact G7.out.put [.func (.func 94) #[.pointer (some ⟨pb, 0, none⟩)] #[]] rfl
          have G6 : Hid (Blk v_89 b6 [.int .i64 ec]) := by rw [hw2]; exact Blk.putB_other (by omega) _ 0 G6.out
          clear hw2
          refine hK.out _ _ (by (try dsimp only); first | exact ⟨F3.out, F4.out⟩ | go_keep) (fun hHeld => ?_)
          clear hK K
          try simp only [Act.put, List.getElem_toArray, List.getElem_cons_succ, List.getElem_cons_zero, List.setIfInBounds_toArray, List.set_cons_zero, List.set_cons_succ]
          refine wpAnyH_done (by kernel_rfl) ?_ _
          go_wp2_with fail
          go_meet
          case rel => exact ⟨b6, b7, rfl, rfl, by omega, by omega, G6.out, G7.out, FP.out, F3.out, F4.out, FB.out⟩
        · go_simp
          obtain ⟨b6, hbb⟩ : ∃ b6, b6 = v_85.heap.size := ⟨_, rfl⟩
          obtain ⟨v_90, hw2⟩ : ∃ v_90, v_90 = v_85.alloc (.cells #[.int .i64 0] 2) := ⟨_, rfl⟩
          have nb6_0 := FP.out.lt
          rw [← hbb] at nb6_0
          have nb6_1 := F3.out.lt
          rw [← hbb] at nb6_1
          have nb6_2 := F4.out.lt
          rw [← hbb] at nb6_2
          have nb6_4 := G7.out.lt
          rw [← hbb] at nb6_4
          have G6 : Hid (Blk v_90 b6 [.int .i64 0]) := by rw [hw2]; exact Blk.at_ v_85 #[.int .i64 0] _ _ hbb
          have FP : Hid (Blk v_90 pb [.int .i64 h.fl, .int .i64 h.gp, .int .i64 h.ln, .int .i64 h.rf, .int .i64 h.sp, .int .i64 h.pu, .int .i64 h.br, .int .i64 h.dr, .int .i64 h.lv, .int .i64 h.dO, .int .i64 h.ld, .int .i64 h.qu, .int .i64 (massN r), .int .i64 0, .int .i64 s.i, .int .i64 s.o, .int .i64 s.l, .int .i64 c.pos, .int .i64 c.vel, .int .i64 c.door]) := by rw [hw2]; exact FP.out.alloc _
          have F3 : Hid (Blk v_90 b3 [.pointer (some ⟨pb, 0, none⟩)]) := by rw [hw2]; exact F3.out.alloc _
          have F4 : Hid (Blk v_90 b4 [.int .i64 x.push, .bool x.brk, .bool x.opn]) := by rw [hw2]; exact F4.out.alloc _
          have FB : Hid (Below pb w v_90) := by rw [hw2]; exact FB.out.alloc (Nat.le_of_lt (Nat.lt_of_lt_of_le lt0 FB.out.size)) _
          have G7 : Hid (Blk v_90 b7 [.nilFunc]) := by rw [hw2]; exact G7.out.alloc _
          rw [← hw2, ← hbb]
          clear hbb hw2
          refine hK.out _ _ (by (try dsimp only); first | exact ⟨F3.out, F4.out⟩ | go_keep) (fun hHeld => ?_)
          clear hK K
          try simp only [Act.put, List.getElem_toArray, List.getElem_cons_succ, List.getElem_cons_zero, List.setIfInBounds_toArray, List.set_cons_zero, List.set_cons_succ]
          refine wpAnyH_ready (rs := [4]) (by kernel_rfl) (by simp) ?_
          refine (AllReadyH.cons rfl (fun K hK => ?_) AllReadyH.nil)
          go_simp
          refine (CF _).mono ?_
          rintro e v_91 ⟨rfl, hb⟩
          have FP : Hid (Blk v_91 pb [.int .i64 h.fl, .int .i64 h.gp, .int .i64 h.ln, .int .i64 h.rf, .int .i64 h.sp, .int .i64 h.pu, .int .i64 h.br, .int .i64 h.dr, .int .i64 h.lv, .int .i64 h.dO, .int .i64 h.ld, .int .i64 h.qu, .int .i64 (massN r), .int .i64 0, .int .i64 s.i, .int .i64 s.o, .int .i64 s.l, .int .i64 c.pos, .int .i64 c.vel, .int .i64 c.door]) := FP.out.below hb FP.out.lt
          have F3 : Hid (Blk v_91 b3 [.pointer (some ⟨pb, 0, none⟩)]) := F3.out.below hb F3.out.lt
          have F4 : Hid (Blk v_91 b4 [.int .i64 x.push, .bool x.brk, .bool x.opn]) := F4.out.below hb F4.out.lt
          have FB : Hid (Below pb w v_91) := FB.out.trans (hb.mono (Nat.le_of_lt (Nat.lt_of_lt_of_le lt0 FB.out.size)))
          have G7 : Hid (Blk v_91 b7 [.nilFunc]) := G7.out.below hb G7.out.lt
          have G6 : Hid (Blk v_91 b6 [.int .i64 0]) := G6.out.below hb G6.out.lt
          clear hb
          try dsimp only
          refine hK.out _ _ (by (try dsimp only); first | exact ⟨F3.out, F4.out⟩ | go_keep) (fun hHeld => ?_)
          clear hK K
          try simp only [Act.put, List.getElem_toArray, List.getElem_cons_succ, List.getElem_cons_zero, List.setIfInBounds_toArray, List.set_cons_zero, List.set_cons_succ]
          refine wpAnyH_ready (rs := [7]) (by kernel_rfl) (by simp) ?_
          refine (AllReadyH.cons rfl (fun K hK => ?_) AllReadyH.nil)
          have k0 := G6.out.c 0 _ rfl
          have kf0 := G6.out.f 0 (by decide)
          go_simp
          obtain ⟨v_92, hw2⟩ : ∃ v_92, v_92 = putB v_91 b6 0 [.int .i64 ec] := ⟨_, rfl⟩
          change K _ (putB v_91 b6 0 [.int .i64 ec])
          rw [← hw2]
          clear k0 kf0
          have FP : Hid (Blk v_92 pb [.int .i64 h.fl, .int .i64 h.gp, .int .i64 h.ln, .int .i64 h.rf, .int .i64 h.sp, .int .i64 h.pu, .int .i64 h.br, .int .i64 h.dr, .int .i64 h.lv, .int .i64 h.dO, .int .i64 h.ld, .int .i64 h.qu, .int .i64 (massN r), .int .i64 0, .int .i64 s.i, .int .i64 s.o, .int .i64 s.l, .int .i64 c.pos, .int .i64 c.vel, .int .i64 c.door]) := by rw [hw2]; exact Blk.putB_other (by omega) _ 0 FP.out
          have F3 : Hid (Blk v_92 b3 [.pointer (some ⟨pb, 0, none⟩)]) := by rw [hw2]; exact Blk.putB_other (by omega) _ 0 F3.out
          have F4 : Hid (Blk v_92 b4 [.int .i64 x.push, .bool x.brk, .bool x.opn]) := by rw [hw2]; exact Blk.putB_other (by omega) _ 0 F4.out
          have FB : Hid (Below pb w v_92) := by rw [hw2]; exact below_putB FB.out (by omega) _ 0
          have G7 : Hid (Blk v_92 b7 [.nilFunc]) := by rw [hw2]; exact Blk.putB_other (by omega) _ 0 G7.out
          have G6 : Hid (Blk v_92 b6 [.int .i64 ec]) := by rw [hw2]; exact G6.out.put [.int .i64 ec] rfl
          clear hw2
          refine hK.out _ _ (by (try dsimp only); first | exact ⟨F3.out, F4.out⟩ | go_keep) (fun hHeld => ?_)
          clear hK K
          try simp only [Act.put, List.getElem_toArray, List.getElem_cons_succ, List.getElem_cons_zero, List.setIfInBounds_toArray, List.set_cons_zero, List.set_cons_succ]
          refine wpAnyH_ready (rs := [8]) (by kernel_rfl) (by simp) ?_
          refine (AllReadyH.cons rfl (fun K hK => ?_) AllReadyH.nil)
          have k0 := G7.out.c 0 _ rfl
          have kf0 := G7.out.f 0 (by decide)
          go_simp
          obtain ⟨v_93, hw2⟩ : ∃ v_93, v_93 = putB v_92 b7 0 [.func (.func 94) #[.pointer (some ⟨pb, 0, none⟩)] #[]] := ⟨_, rfl⟩
          change K _ (putB v_92 b7 0 [.func (.func 94) #[.pointer (some ⟨pb, 0, none⟩)] #[]])
          rw [← hw2]
          clear k0 kf0
          have FP : Hid (Blk v_93 pb [.int .i64 h.fl, .int .i64 h.gp, .int .i64 h.ln, .int .i64 h.rf, .int .i64 h.sp, .int .i64 h.pu, .int .i64 h.br, .int .i64 h.dr, .int .i64 h.lv, .int .i64 h.dO, .int .i64 h.ld, .int .i64 h.qu, .int .i64 (massN r), .int .i64 0, .int .i64 s.i, .int .i64 s.o, .int .i64 s.l, .int .i64 c.pos, .int .i64 c.vel, .int .i64 c.door]) := by rw [hw2]; exact Blk.putB_other (by omega) _ 0 FP.out
          have F3 : Hid (Blk v_93 b3 [.pointer (some ⟨pb, 0, none⟩)]) := by rw [hw2]; exact Blk.putB_other (by omega) _ 0 F3.out
          have F4 : Hid (Blk v_93 b4 [.int .i64 x.push, .bool x.brk, .bool x.opn]) := by rw [hw2]; exact Blk.putB_other (by omega) _ 0 F4.out
          have FB : Hid (Below pb w v_93) := by rw [hw2]; exact below_putB FB.out (by omega) _ 0
          have G7 : Hid (Blk v_93 b7 [.func (.func 94) #[.pointer (some ⟨pb, 0, none⟩)] #[]]) := by rw [hw2]; exact G7.out.put [.func (.func 94) #[.pointer (some ⟨pb, 0, none⟩)] #[]] rfl
          have G6 : Hid (Blk v_93 b6 [.int .i64 ec]) := by rw [hw2]; exact Blk.putB_other (by omega) _ 0 G6.out
          clear hw2
          refine hK.out _ _ (by (try dsimp only); first | exact ⟨F3.out, F4.out⟩ | go_keep) (fun hHeld => ?_)
          clear hK K
          try simp only [Act.put, List.getElem_toArray, List.getElem_cons_succ, List.getElem_cons_zero, List.setIfInBounds_toArray, List.set_cons_zero, List.set_cons_succ]
          refine wpAnyH_done (by kernel_rfl) ?_ _
          go_wp2_with fail
          go_meet
          case rel => exact ⟨b6, b7, rfl, rfl, by omega, by omega, G6.out, G7.out, FP.out, F3.out, F4.out, FB.out⟩
    · go_simp
      obtain ⟨b6, hbb⟩ : ∃ b6, b6 = v_65.heap.size := ⟨_, rfl⟩
      obtain ⟨v_94, hw2⟩ : ∃ v_94, v_94 = v_65.alloc (.cells #[.int .i64 0] 2) := ⟨_, rfl⟩
      have nb6_0 := FP.out.lt
      rw [← hbb] at nb6_0
      have nb6_1 := F3.out.lt
      rw [← hbb] at nb6_1
      have nb6_2 := F4.out.lt
      rw [← hbb] at nb6_2
      have G6 : Hid (Blk v_94 b6 [.int .i64 0]) := by rw [hw2]; exact Blk.at_ v_65 #[.int .i64 0] _ _ hbb
      have FP : Hid (Blk v_94 pb [.int .i64 h.fl, .int .i64 h.gp, .int .i64 h.ln, .int .i64 h.rf, .int .i64 h.sp, .int .i64 h.pu, .int .i64 h.br, .int .i64 h.dr, .int .i64 h.lv, .int .i64 h.dO, .int .i64 h.ld, .int .i64 h.qu, .int .i64 (massN r), .int .i64 0, .int .i64 s.i, .int .i64 s.o, .int .i64 s.l, .int .i64 c.pos, .int .i64 c.vel, .int .i64 c.door]) := by rw [hw2]; exact FP.out.alloc _
      have F3 : Hid (Blk v_94 b3 [.pointer (some ⟨pb, 0, none⟩)]) := by rw [hw2]; exact F3.out.alloc _
      have F4 : Hid (Blk v_94 b4 [.int .i64 x.push, .bool x.brk, .bool x.opn]) := by rw [hw2]; exact F4.out.alloc _
      have FB : Hid (Below pb w v_94) := by rw [hw2]; exact FB.out.alloc (Nat.le_of_lt (Nat.lt_of_lt_of_le lt0 FB.out.size)) _
      rw [← hw2, ← hbb]
      clear hbb hw2
      refine hK.out _ _ (by (try dsimp only); first | exact ⟨F3.out, F4.out⟩ | go_keep) (fun hHeld => ?_)
      clear hK K
      try simp only [Act.put, List.getElem_toArray, List.getElem_cons_succ, List.getElem_cons_zero, List.setIfInBounds_toArray, List.set_cons_zero, List.set_cons_succ]
      refine wpAnyH_ready (rs := [1, 6]) (by kernel_rfl) (by simp) ?_
      refine (AllReadyH.cons rfl (fun K hK => ?_) (AllReadyH.cons rfl (fun K hK => ?_) AllReadyH.nil))
      · go_simp
        refine (CE _ FP.out).mono ?_
        rintro e v_95 ⟨rfl, hb⟩
        have FP : Hid (Blk v_95 pb [.int .i64 h.fl, .int .i64 h.gp, .int .i64 h.ln, .int .i64 h.rf, .int .i64 h.sp, .int .i64 h.pu, .int .i64 h.br, .int .i64 h.dr, .int .i64 h.lv, .int .i64 h.dO, .int .i64 h.ld, .int .i64 h.qu, .int .i64 (massN r), .int .i64 0, .int .i64 s.i, .int .i64 s.o, .int .i64 s.l, .int .i64 c.pos, .int .i64 c.vel, .int .i64 c.door]) := FP.out.below hb FP.out.lt
        have F3 : Hid (Blk v_95 b3 [.pointer (some ⟨pb, 0, none⟩)]) := F3.out.below hb F3.out.lt
        have F4 : Hid (Blk v_95 b4 [.int .i64 x.push, .bool x.brk, .bool x.opn]) := F4.out.below hb F4.out.lt
        have FB : Hid (Below pb w v_95) := FB.out.trans (hb.mono (Nat.le_of_lt (Nat.lt_of_lt_of_le lt0 FB.out.size)))
        have G6 : Hid (Blk v_95 b6 [.int .i64 0]) := G6.out.below hb G6.out.lt
        clear hb
        try dsimp only
        refine hK.out _ _ (by (try dsimp only); first | exact ⟨F3.out, F4.out⟩ | go_keep) (fun hHeld => ?_)
        clear hK K
        try simp only [Act.put, List.getElem_toArray, List.getElem_cons_succ, List.getElem_cons_zero, List.setIfInBounds_toArray, List.set_cons_zero, List.set_cons_succ]
        refine wpAnyH_ready (rs := [4, 6]) (by kernel_rfl) (by simp) ?_
        refine (AllReadyH.cons rfl (fun K hK => ?_) (AllReadyH.cons rfl (fun K hK => ?_) AllReadyH.nil))
        · go_simp
          refine (CF _).mono ?_
          rintro e v_96 ⟨rfl, hb⟩
          have FP : Hid (Blk v_96 pb [.int .i64 h.fl, .int .i64 h.gp, .int .i64 h.ln, .int .i64 h.rf, .int .i64 h.sp, .int .i64 h.pu, .int .i64 h.br, .int .i64 h.dr, .int .i64 h.lv, .int .i64 h.dO, .int .i64 h.ld, .int .i64 h.qu, .int .i64 (massN r), .int .i64 0, .int .i64 s.i, .int .i64 s.o, .int .i64 s.l, .int .i64 c.pos, .int .i64 c.vel, .int .i64 c.door]) := FP.out.below hb FP.out.lt
          have F3 : Hid (Blk v_96 b3 [.pointer (some ⟨pb, 0, none⟩)]) := F3.out.below hb F3.out.lt
          have F4 : Hid (Blk v_96 b4 [.int .i64 x.push, .bool x.brk, .bool x.opn]) := F4.out.below hb F4.out.lt
          have FB : Hid (Below pb w v_96) := FB.out.trans (hb.mono (Nat.le_of_lt (Nat.lt_of_lt_of_le lt0 FB.out.size)))
          have G6 : Hid (Blk v_96 b6 [.int .i64 0]) := G6.out.below hb G6.out.lt
          clear hb
          try dsimp only
          refine hK.out _ _ (by (try dsimp only); first | exact ⟨F3.out, F4.out⟩ | go_keep) (fun hHeld => ?_)
          clear hK K
          try simp only [Act.put, List.getElem_toArray, List.getElem_cons_succ, List.getElem_cons_zero, List.setIfInBounds_toArray, List.set_cons_zero, List.set_cons_succ]
          refine wpAnyH_ready (rs := [6]) (by kernel_rfl) (by simp) ?_
          refine (AllReadyH.cons rfl (fun K hK => ?_) AllReadyH.nil)
          go_simp
          obtain ⟨b7, hbb⟩ : ∃ b7, b7 = v_96.heap.size := ⟨_, rfl⟩
          obtain ⟨v_97, hw2⟩ : ∃ v_97, v_97 = v_96.alloc (.cells #[.nilFunc] 82) := ⟨_, rfl⟩
          have nb7_0 := FP.out.lt
          rw [← hbb] at nb7_0
          have nb7_1 := F3.out.lt
          rw [← hbb] at nb7_1
          have nb7_2 := F4.out.lt
          rw [← hbb] at nb7_2
          have nb7_4 := G6.out.lt
          rw [← hbb] at nb7_4
          have G7 : Hid (Blk v_97 b7 [.nilFunc]) := by rw [hw2]; exact Blk.at_ v_96 #[.nilFunc] _ _ hbb
          have FP : Hid (Blk v_97 pb [.int .i64 h.fl, .int .i64 h.gp, .int .i64 h.ln, .int .i64 h.rf, .int .i64 h.sp, .int .i64 h.pu, .int .i64 h.br, .int .i64 h.dr, .int .i64 h.lv, .int .i64 h.dO, .int .i64 h.ld, .int .i64 h.qu, .int .i64 (massN r), .int .i64 0, .int .i64 s.i, .int .i64 s.o, .int .i64 s.l, .int .i64 c.pos, .int .i64 c.vel, .int .i64 c.door]) := by rw [hw2]; exact FP.out.alloc _
          have F3 : Hid (Blk v_97 b3 [.pointer (some ⟨pb, 0, none⟩)]) := by rw [hw2]; exact F3.out.alloc _
          have F4 : Hid (Blk v_97 b4 [.int .i64 x.push, .bool x.brk, .bool x.opn]) := by rw [hw2]; exact F4.out.alloc _
          have FB : Hid (Below pb w v_97) := by rw [hw2]; exact FB.out.alloc (Nat.le_of_lt (Nat.lt_of_lt_of_le lt0 FB.out.size)) _
          have G6 : Hid (Blk v_97 b6 [.int .i64 0]) := by rw [hw2]; exact G6.out.alloc _
          rw [← hw2, ← hbb]
          clear hbb hw2
          refine hK.out _ _ (by (try dsimp only); first | exact ⟨F3.out, F4.out⟩ | go_keep) (fun hHeld => ?_)
          clear hK K
          try simp only [Act.put, List.getElem_toArray, List.getElem_cons_succ, List.getElem_cons_zero, List.setIfInBounds_toArray, List.set_cons_zero, List.set_cons_succ]
          refine wpAnyH_ready (rs := [7]) (by kernel_rfl) (by simp) ?_
          refine (AllReadyH.cons rfl (fun K hK => ?_) AllReadyH.nil)
          have k0 := G6.out.c 0 _ rfl
          have kf0 := G6.out.f 0 (by decide)
          go_simp
          obtain ⟨v_98, hw2⟩ : ∃ v_98, v_98 = putB v_97 b6 0 [.int .i64 ec] := ⟨_, rfl⟩
          change K _ (putB v_97 b6 0 [.int .i64 ec])
          rw [← hw2]
          clear k0 kf0
          have FP : Hid (Blk v_98 pb [.int .i64 h.fl, .int .i64 h.gp, .int .i64 h.ln, .int .i64 h.rf, .int .i64 h.sp, .int .i64 h.pu, .int .i64 h.br, .int .i64 h.dr, .int .i64 h.lv, .int .i64 h.dO, .int .i64 h.ld, .int .i64 h.qu, .int .i64 (massN r), .int .i64 0, .int .i64 s.i, .int .i64 s.o, .int .i64 s.l, .int .i64 c.pos, .int .i64 c.vel, .int .i64 c.door]) := by rw [hw2]; exact Blk.putB_other (by omega) _ 0 FP.out
          have F3 : Hid (Blk v_98 b3 [.pointer (some ⟨pb, 0, none⟩)]) := by rw [hw2]; exact Blk.putB_other (by omega) _ 0 F3.out
          have F4 : Hid (Blk v_98 b4 [.int .i64 x.push, .bool x.brk, .bool x.opn]) := by rw [hw2]; exact Blk.putB_other (by omega) _ 0 F4.out
          have FB : Hid (Below pb w v_98) := by rw [hw2]; exact below_putB FB.out (by omega) _ 0
          have G6 : Hid (Blk v_98 b6 [.int .i64 ec]) := by rw [hw2]; exact G6.out.put [.int .i64 ec] rfl
          have G7 : Hid (Blk v_98 b7 [.nilFunc]) := by rw [hw2]; exact Blk.putB_other (by omega) _ 0 G7.out
          clear hw2
          refine hK.out _ _ (by (try dsimp only); first | exact ⟨F3.out, F4.out⟩ | go_keep) (fun hHeld => ?_)
          clear hK K
          try simp only [Act.put, List.getElem_toArray, List.getElem_cons_succ, List.getElem_cons_zero, List.setIfInBounds_toArray, List.set_cons_zero, List.set_cons_succ]
          refine wpAnyH_ready (rs := [8]) (by kernel_rfl) (by simp) ?_
          refine (AllReadyH.cons rfl (fun K hK => ?_) AllReadyH.nil)
          have k0 := G7.out.c 0 _ rfl
          have kf0 := G7.out.f 0 (by decide)
          go_simp
          obtain ⟨v_99, hw2⟩ : ∃ v_99, v_99 = putB v_98 b7 0 [.func (.func 94) #[.pointer (some ⟨pb, 0, none⟩)] #[]] := ⟨_, rfl⟩
          change K _ (putB v_98 b7 0 [.func (.func 94) #[.pointer (some ⟨pb, 0, none⟩)] #[]])
          rw [← hw2]
          clear k0 kf0
          have FP : Hid (Blk v_99 pb [.int .i64 h.fl, .int .i64 h.gp, .int .i64 h.ln, .int .i64 h.rf, .int .i64 h.sp, .int .i64 h.pu, .int .i64 h.br, .int .i64 h.dr, .int .i64 h.lv, .int .i64 h.dO, .int .i64 h.ld, .int .i64 h.qu, .int .i64 (massN r), .int .i64 0, .int .i64 s.i, .int .i64 s.o, .int .i64 s.l, .int .i64 c.pos, .int .i64 c.vel, .int .i64 c.door]) := by rw [hw2]; exact Blk.putB_other (by omega) _ 0 FP.out
          have F3 : Hid (Blk v_99 b3 [.pointer (some ⟨pb, 0, none⟩)]) := by rw [hw2]; exact Blk.putB_other (by omega) _ 0 F3.out
          have F4 : Hid (Blk v_99 b4 [.int .i64 x.push, .bool x.brk, .bool x.opn]) := by rw [hw2]; exact Blk.putB_other (by omega) _ 0 F4.out
          have FB : Hid (Below pb w v_99) := by rw [hw2]; exact below_putB FB.out (by omega) _ 0
          have G6 : Hid (Blk v_99 b6 [.int .i64 ec]) := by rw [hw2]; exact Blk.putB_other (by omega) _ 0 G6.out
          have G7 : Hid (Blk v_99 b7 [.func (.func 94) #[.pointer (some ⟨pb, 0, none⟩)] #[]]) := by rw [hw2]; exact G7.out.put [.func (.func 94) #[.pointer (some ⟨pb, 0, none⟩)] #[]] rfl
          clear hw2
          refine hK.out _ _ (by (try dsimp only); first | exact ⟨F3.out, F4.out⟩ | go_keep) (fun hHeld => ?_)
          clear hK K
          try simp only [Act.put, List.getElem_toArray, List.getElem_cons_succ, List.getElem_cons_zero, List.setIfInBounds_toArray, List.set_cons_zero, List.set_cons_succ]
          refine wpAnyH_done (by kernel_rfl) ?_ _
          go_wp2_with fail
          go_meet
          case rel => exact ⟨b6, b7, rfl, rfl, by omega, by omega, G6.out, G7.out, FP.out, F3.out, F4.out, FB.out⟩
        · go_simp
          obtain ⟨b7, hbb⟩ : ∃ b7, b7 = v_95.heap.size := ⟨_, rfl⟩
          obtain ⟨v_100, hw2⟩ : ∃ v_100, v_100 = v_95.alloc (.cells #[.nilFunc] 82) := ⟨_, rfl⟩
          have nb7_0 := FP.out.lt
          rw [← hbb] at nb7_0
          have nb7_1 := F3.out.lt
          rw [← hbb] at nb7_1
          have nb7_2 := F4.out.lt
          rw [← hbb] at nb7_2
          have nb7_4 := G6.out.lt
          rw [← hbb] at nb7_4
          have G7 : Hid (Blk v_100 b7 [.nilFunc]) := by rw [hw2]; exact Blk.at_ v_95 #[.nilFunc] _ _ hbb
          have FP : Hid (Blk v_100 pb [.int .i64 h.fl, .int .i64 h.gp, .int .i64 h.ln, .int .i64 h.rf, .int .i64 h.sp, .int .i64 h.pu, .int .i64 h.br, .int .i64 h.dr, .int .i64 h.lv, .int .i64 h.dO, .int .i64 h.ld, .int .i64 h.qu, .int .i64 (massN r), .int .i64 0, .int .i64 s.i, .int .i64 s.o, .int .i64 s.l, .int .i64 c.pos, .int .i64 c.vel, .int .i64 c.door]) := by rw [hw2]; exact FP.out.alloc _
          have F3 : Hid (Blk v_100 b3 [.pointer (some ⟨pb, 0, none⟩)]) := by rw [hw2]; exact F3.out.alloc _
          have F4 : Hid (Blk v_100 b4 [.int .i64 x.push, .bool x.brk, .bool x.opn]) := by rw [hw2]; exact F4.out.alloc _
          have FB : Hid (Below pb w v_100) := by rw [hw2]; exact FB.out.alloc (Nat.le_of_lt (Nat.lt_of_lt_of_le lt0 FB.out.size)) _
          have G6 : Hid (Blk v_100 b6 [.int .i64 0]) := by rw [hw2]; exact G6.out.alloc _
          rw [← hw2, ← hbb]
          clear hbb hw2
          refine hK.out _ _ (by (try dsimp only); first | exact ⟨F3.out, F4.out⟩ | go_keep) (fun hHeld => ?_)
          clear hK K
          try simp only [Act.put, List.getElem_toArray, List.getElem_cons_succ, List.getElem_cons_zero, List.setIfInBounds_toArray, List.set_cons_zero, List.set_cons_succ]
          refine wpAnyH_ready (rs := [4]) (by kernel_rfl) (by simp) ?_
          refine (AllReadyH.cons rfl (fun K hK => ?_) AllReadyH.nil)
          go_simp
          refine (CF _).mono ?_
          rintro e v_101 ⟨rfl, hb⟩
          have FP : Hid (Blk v_101 pb [.int .i64 h.fl, .int .i64 h.gp, .int .i64 h.ln, .int .i64 h.rf, .int .i64 h.sp, .int .i64 h.pu, .int .i64 h.br, .int .i64 h.dr, .int .i64 h.lv, .int .i64 h.dO, .int .i64 h.ld, .int .i64 h.qu, .int .i64 (massN r), .int .i64 0, .int .i64 s.i, .int .i64 s.o, .int .i64 s.l, .int .i64 c.pos, .int .i64 c.vel, .int .i64 c.door]) := FP.out.below hb FP.out.lt
          have F3 : Hid (Blk v_101 b3 [.pointer (some ⟨pb, 0, none⟩)]) := F3.out.below hb F3.out.lt
          have F4 : Hid (Blk v_101 b4 [.int .i64 x.push, .bool x.brk, .bool x.opn]) := F4.out.below hb F4.out.lt
          have FB : Hid (Below pb w v_101) := FB.out.trans (hb.mono (Nat.le_of_lt (Nat.lt_of_lt_of_le lt0 FB.out.size)))
          have G6 : Hid (Blk v_101 b6 [.int .i64 0]) := G6.out.below hb G6.out.lt
          have G7 : Hid (Blk v_101 b7 [.nilFunc]) := G7.out.below hb G7.out.lt
          clear hb
          try dsimp only
          refine hK.out _ _ (by (try dsimp only); first | exact ⟨F3.out, F4.out⟩ | go_keep) (fun hHeld => ?_)
          clear hK K
          try simp only [Act.put, List.getElem_toArray, List.getElem_cons_succ, List.getElem_cons_zero, List.setIfInBounds_toArray, List.set_cons_zero, List.set_cons_succ]
          refine wpAnyH_ready (rs := [7]) (by kernel_rfl) (by simp) ?_
          refine (AllReadyH.cons rfl (fun K hK => ?_) AllReadyH.nil)
          have k0 := G6.out.c 0 _ rfl
          have kf0 := G6.out.f 0 (by decide)
          go_simp
          obtain ⟨v_102, hw2⟩ : ∃ v_102, v_102 = putB v_101 b6 0 [.int .i64 ec] := ⟨_, rfl⟩
          change K _ (putB v_101 b6 0 [.int .i64 ec])
          rw [← hw2]
          clear k0 kf0
          have FP : Hid (Blk v_102 pb [.int .i64 h.fl, .int .i64 h.gp, .int .i64 h.ln, .int .i64 h.rf, .int .i64 h.sp, .int .i64 h.pu, .int .i64 h.br, .int .i64 h.dr, .int .i64 h.lv, .int .i64 h.dO, .int .i64 h.ld, .int .i64 h.qu, .int .i64 (massN r), .int .i64 0, .int .i64 s.i, .int .i64 s.o, .int .i64 s.l, .int .i64 c.pos, .int .i64 c.vel, .int .i64 c.door]) := by rw [hw2]; exact Blk.putB_other (by omega) _ 0 FP.out
          have F3 : Hid (Blk v_102 b3 [.pointer (some ⟨pb, 0, none⟩)]) := by rw [hw2]; exact Blk.putB_other (by omega) _ 0 F3.out
          have F4 : Hid (Blk v_102 b4 [.int .i64 x.push, .bool x.brk, .bool x.opn]) := by rw [hw2]; exact Blk.putB_other (by omega) _ 0 F4.out
          have FB : Hid (Below pb w v_102) := by rw [hw2]; exact below_putB FB.out (by omega) _ 0
          have G6 : Hid (Blk v_102 b6 [.int .i64 ec]) := by rw [hw2]; exact G6.out.put [.int .i64 ec] rfl
          have G7 : Hid (Blk v_102 b7 [.nilFunc]) := by rw [hw2]; exact Blk.putB_other (by omega) _ 0 G7.out
          clear hw2
          refine hK.out _ _ (by (try dsimp only); first | exact ⟨F3.out, F4.out⟩ | go_keep) (fun hHeld => ?_)
          clear hK K
          try simp only [Act.put, List.getElem_toArray, List.getElem_cons_succ, List.getElem_cons_zero, List.setIfInBounds_toArray, List.set_cons_zero, List.set_cons_succ]
          refine wpAnyH_ready (rs := [8]) (by kernel_rfl) (by simp) ?_
          refine (AllReadyH.cons rfl (fun K hK => ?_) AllReadyH.nil)
          have k0 := G7.out.c 0 _ rfl
          have kf0 := G7.out.f 0 (by decide)
          go_simp
          obtain ⟨v_103, hw2⟩ : ∃ v_103, v_103 = putB v_102 b7 0 [.func (.func 94) #[.pointer (some ⟨pb, 0, none⟩)] #[]] := ⟨_, rfl⟩
          change K _ (putB v_102 b7 0 [.func (.func 94) #[.pointer (some ⟨pb, 0, none⟩)] #[]])
          rw [← hw2]
          clear k0 kf0
          have FP : Hid (Blk v_103 pb [.int .i64 h.fl, .int .i64 h.gp, .int .i64 h.ln, .int .i64 h.rf, .int .i64 h.sp, .int .i64 h.pu, .int .i64 h.br, .int .i64 h.dr, .int .i64 h.lv, .int .i64 h.dO, .int .i64 h.ld, .int .i64 h.qu, .int .i64 (massN r), .int .i64 0, .int .i64 s.i, .int .i64 s.o, .int .i64 s.l, .int .i64 c.pos, .int .i64 c.vel, .int .i64 c.door]) := by rw [hw2]; exact Blk.putB_other (by omega) _ 0 FP.out
          have F3 : Hid (Blk v_103 b3 [.pointer (some ⟨pb, 0, none⟩)]) := by rw [hw2]; exact Blk.putB_other (by omega) _ 0 F3.out
          have F4 : Hid (Blk v_103 b4 [.int .i64 x.push, .bool x.brk, .bool x.opn]) := by rw [hw2]; exact Blk.putB_other (by omega) _ 0 F4.out
          have FB : Hid (Below pb w v_103) := by rw [hw2]; exact below_putB FB.out (by omega) _ 0
          have G6 : Hid (Blk v_103 b6 [.int .i64 ec]) := by rw [hw2]; exact Blk.putB_other (by omega) _ 0 G6.out
          have G7 : Hid (Blk v_103 b7 [.func (.func 94) #[.pointer (some ⟨pb, 0, none⟩)] #[]]) := by rw [hw2]; exact G7.out.put [.func (.func 94) #[.pointer (some ⟨pb, 0, none⟩)] #[]] rfl
          clear hw2
          refine hK.out _ _ (by (try dsimp only); first | exact ⟨F3.out, F4.out⟩ | go_keep) (fun hHeld => ?_)
          clear hK K
          try simp only [Act.put, List.getElem_toArray, List.getElem_cons_succ, List.getElem_cons_zero, List.setIfInBounds_toArray, List.set_cons_zero, List.set_cons_succ]
          refine wpAnyH_done (by kernel_rfl) ?_ _
          go_wp2_with fail
          go_meet
          case rel => exact ⟨b6, b7, rfl, rfl, by omega, by omega, G6.out, G7.out, FP.out, F3.out, F4.out, FB.out⟩
      · go_simp
        obtain ⟨b7, hbb⟩ : ∃ b7, b7 = v_94.heap.size := ⟨_, rfl⟩
        obtain ⟨v_104, hw2⟩ : ∃ v_104, v_104 = v_94.alloc (.cells #[.nilFunc] 82) := ⟨_, rfl⟩
        have nb7_0 := FP.out.lt
        rw [← hbb] at nb7_0
        have nb7_1 := F3.out.lt
        rw [← hbb] at nb7_1
        have nb7_2 := F4.out.lt
        rw [← hbb] at nb7_2
        have nb7_4 := G6.out.lt
        rw [← hbb] at nb7_4
        have G7 : Hid (Blk v_104 b7 [.nilFunc]) := by rw [hw2]; exact Blk.at_ v_94 #[.nilFunc] _ _ hbb
        have FP : Hid (Blk v_104 pb [.int .i64 h.fl, .int .i64 h.gp, .int .i64 h.ln, .int .i64 h.rf, .int .i64 h.sp, .int .i64 h.pu, .int .i64 h.br, .int .i64 h.dr, .int .i64 h.lv, .int .i64 h.dO, .int .i64 h.ld, .int .i64 h.qu, .int .i64 (massN r), .int .i64 0, .int .i64 s.i, .int .i64 s.o, .int .i64 s.l, .int .i64 c.pos, .int .i64 c.vel, .int .i64 c.door]) := by rw [hw2]; exact FP.out.alloc _
        have F3 : Hid (Blk v_104 b3 [.pointer (some ⟨pb, 0, none⟩)]) := by rw [hw2]; exact F3.out.alloc _
        have F4 : Hid (Blk v_104 b4 [.int .i64 x.push, .bool x.brk, .bool x.opn]) := by rw [hw2]; exact F4.out.alloc _
        have FB : Hid (Below pb w v_104) := by rw [hw2]; exact FB.out.alloc (Nat.le_of_lt (Nat.lt_of_lt_of_le lt0 FB.out.size)) _
        have G6 : Hid (Blk v_104 b6 [.int .i64 0]) := by rw [hw2]; exact G6.out.alloc _
        rw [← hw2, ← hbb]
        clear hbb hw2
        refine hK.out _ _ (by (try dsimp only); first | exact ⟨F3.out, F4.out⟩ | go_keep) (fun hHeld => ?_)
        clear hK K
        try simp only [Act.put, List.getElem_toArray, List.getElem_cons_succ, List.getElem_cons_zero, List.setIfInBounds_toArray, List.set_cons_zero, List.set_cons_succ]
        refine wpAnyH_ready (rs := [1]) (by kernel_rfl) (by simp) ?_
        refine (AllReadyH.cons rfl (fun K hK => ?_) AllReadyH.nil)
        go_simp
        refine (CE _ FP.out).mono ?_
        rintro e v_105 ⟨rfl, hb⟩
        have FP : Hid (Blk v_105 pb [.int .i64 h.fl, .int .i64 h.gp, .int .i64 h.ln, .int .i64 h.rf, .int .i64 h.sp, .int .i64 h.pu, .int .i64 h.br, .int .i64 h.dr, .int .i64 h.lv, .int .i64 h.dO, .int .i64 h.ld, .int .i64 h.qu, .int .i64 (massN r), .int .i64 0, .int .i64 s.i, .int .i64 s.o, .int .i64 s.l, .int .i64 c.pos, .int .i64 c.vel, .int .i64 c.door]) := FP.out.below hb FP.out.lt
        have F3 : Hid (Blk v_105 b3 [.pointer (some ⟨pb, 0, none⟩)]) := F3.out.below hb F3.out.lt
        have F4 : Hid (Blk v_105 b4 [.int .i64 x.push, .bool x.brk, .bool x.opn]) := F4.out.below hb F4.out.lt
        have FB : Hid (Below pb w v_105) := FB.out.trans (hb.mono (Nat.le_of_lt (Nat.lt_of_lt_of_le lt0 FB.out.size)))
        have G6 : Hid (Blk v_105 b6 [.int .i64 0]) := G6.out.below hb G6.out.lt
        have G7 : Hid (Blk v_105 b7 [.nilFunc]) := G7.out.below hb G7.out.lt
        clear hb
        try dsimp only
        refine hK.out _ _ (by (try dsimp only); first | exact ⟨F3.out, F4.out⟩ | go_keep) (fun hHeld => ?_)
        clear hK K
        try simp only [Act.put, List.getElem_toArray, List.getElem_cons_succ, List.getElem_cons_zero, List.setIfInBounds_toArray, List.set_cons_zero, List.set_cons_succ]
        refine wpAnyH_ready (rs := [4]) (by kernel_rfl) (by simp) ?_
        refine (AllReadyH.cons rfl (fun K hK => ?_) AllReadyH.nil)
        go_simp
        refine (CF _).mono ?_
        rintro e v_106 ⟨rfl, hb⟩
        have FP : Hid (Blk v_106 pb [.int .i64 h.fl, .int .i64 h.gp, .int .i64 h.ln, .int .i64 h.rf, .int .i64 h.sp, .int .i64 h.pu, .int .i64 h.br, .int .i64 h.dr, .int .i64 h.lv, .int .i64 h.dO, .int .i64 h.ld, .int .i64 h.qu, .int .i64 (massN r), .int .i64 0, .int .i64 s.i, .int .i64 s.o, .int .i64 s.l, .int .i64 c.pos, .int .i64 c.vel, .int .i64 c.door]) := FP.out.below hb FP.out.lt
        have F3 : Hid (Blk v_106 b3 [.pointer (some ⟨pb, 0, none⟩)]) := F3.out.below hb F3.out.lt
        have F4 : Hid (Blk v_106 b4 [.int .i64 x.push, .bool x.brk, .bool x.opn]) := F4.out.below hb F4.out.lt
        have FB : Hid (Below pb w v_106) := FB.out.trans (hb.mono (Nat.le_of_lt (Nat.lt_of_lt_of_le lt0 FB.out.size)))
        have G6 : Hid (Blk v_106 b6 [.int .i64 0]) := G6.out.below hb G6.out.lt
        have G7 : Hid (Blk v_106 b7 [.nilFunc]) := G7.out.below hb G7.out.lt
        clear hb
        try dsimp only
        refine hK.out _ _ (by (try dsimp only); first | exact ⟨F3.out, F4.out⟩ | go_keep) (fun hHeld => ?_)
        clear hK K
        try simp only [Act.put, List.getElem_toArray, List.getElem_cons_succ, List.getElem_cons_zero, List.setIfInBounds_toArray, List.set_cons_zero, List.set_cons_succ]
        refine wpAnyH_ready (rs := [7]) (by kernel_rfl) (by simp) ?_
        refine (AllReadyH.cons rfl (fun K hK => ?_) AllReadyH.nil)
        have k0 := G6.out.c 0 _ rfl
        have kf0 := G6.out.f 0 (by decide)
        go_simp
        obtain ⟨v_107, hw2⟩ : ∃ v_107, v_107 = putB v_106 b6 0 [.int .i64 ec] := ⟨_, rfl⟩
        change K _ (putB v_106 b6 0 [.int .i64 ec])
        rw [← hw2]
        clear k0 kf0
        have FP : Hid (Blk v_107 pb [.int .i64 h.fl, .int .i64 h.gp, .int .i64 h.ln, .int .i64 h.rf, .int .i64 h.sp, .int .i64 h.pu, .int .i64 h.br, .int .i64 h.dr, .int .i64 h.lv, .int .i64 h.dO, .int .i64 h.ld, .int .i64 h.qu, .int .i64 (massN r), .int .i64 0, .int .i64 s.i, .int .i64 s.o, .int .i64 s.l, .int .i64 c.pos, .int .i64 c.vel, .int .i64 c.door]) := by rw [hw2]; exact Blk.putB_other (by omega) _ 0 FP.out
        have F3 : Hid (Blk v_107 b3 [.pointer (some ⟨pb, 0, none⟩)]) := by rw [hw2]; exact Blk.putB_other (by omega) _ 0 F3.out
        have F4 : Hid (Blk v_107 b4 [.int .i64 x.push, .bool x.brk, .bool x.opn]) := by rw [hw2]; exact Blk.putB_other (by omega) _ 0 F4.out
        have FB : Hid (Below pb w v_107) := by rw [hw2]; exact below_putB FB.out (by omega) _ 0
        have G6 : Hid (Blk v_107 b6 [.int .i64 ec]) := by rw [hw2]; exact G6.out.put [.int .i64 ec] rfl
        have G7 : Hid (Blk v_107 b7 [.nilFunc]) := by rw [hw2]; exact Blk.putB_other (by omega) _ 0 G7.out
        clear hw2
        refine hK.out _ _ (by (try dsimp only); first | exact ⟨F3.out, F4.out⟩ | go_keep) (fun hHeld => ?_)
        clear hK K
        try simp only [Act.put, List.getElem_toArray, List.getElem_cons_succ, List.getElem_cons_zero, List.setIfInBounds_toArray, List.set_cons_zero, List.set_cons_succ]
        refine wpAnyH_ready (rs := [8]) (by kernel_rfl) (by simp) ?_
        refine (AllReadyH.cons rfl (fun K hK => ?_) AllReadyH.nil)
        have k0 := G7.out.c 0 _ rfl
        have kf0 := G7.out.f 0 (by decide)
        go_simp
        obtain ⟨v_108, hw2⟩ : ∃ v_108, v_108 = putB v_107 b7 0 [.func (.func 94) #[.pointer (some ⟨pb, 0, none⟩)] #[]] := ⟨_, rfl⟩
        change K _ (putB v_107 b7 0 [.func (.func 94) #[.pointer (some ⟨pb, 0, none⟩)] #[]])
        rw [← hw2]
        clear k0 kf0
        have FP : Hid (Blk v_108 pb [.int .i64 h.fl, .int .i64 h.gp, .int .i64 h.ln, .int .i64 h.rf, .int .i64 h.sp, .int .i64 h.pu, .int .i64 h.br, .int .i64 h.dr, .int .i64 h.lv, .int .i64 h.dO, .int .i64 h.ld, .int .i64 h.qu, .int .i64 (massN r), .int .i64 0, .int .i64 s.i, .int .i64 s.o, .int .i64 s.l, .int .i64 c.pos, .int .i64 c.vel, .int .i64 c.door]) := by rw [hw2]; exact Blk.putB_other (by omega) _ 0 FP.out
        have F3 : Hid (Blk v_108 b3 [.pointer (some ⟨pb, 0, none⟩)]) := by rw [hw2]; exact Blk.putB_other (by omega) _ 0 F3.out
        have F4 : Hid (Blk v_108 b4 [.int .i64 x.push, .bool x.brk, .bool x.opn]) := by rw [hw2]; exact Blk.putB_other (by omega) _ 0 F4.out
        have FB : Hid (Below pb w v_108) := by rw [hw2]; exact below_putB FB.out (by omega) _ 0
        have G6 : Hid (Blk v_108 b6 [.int .i64 ec]) := by rw [hw2]; exact Blk.putB_other (by omega) _ 0 G6.out
        have G7 : Hid (Blk v_108 b7 [.func (.func 94) #[.pointer (some ⟨pb, 0, none⟩)] #[]]) := by rw [hw2]; exact G7.out.put [.func (.func 94) #[.pointer (some ⟨pb, 0, none⟩)] #[]] rfl
        clear hw2
        refine hK.out _ _ (by (try dsimp only); first | exact ⟨F3.out, F4.out⟩ | go_keep) (fun hHeld => ?_)
        clear hK K
        try simp only [Act.put, List.getElem_toArray, List.getElem_cons_succ, List.getElem_cons_zero, List.setIfInBounds_toArray, List.set_cons_zero, List.set_cons_succ]
        refine wpAnyH_done (by kernel_rfl) ?_ _
        go_wp2_with fail
        go_meet
        case rel => exact ⟨b6, b7, rfl, rfl, by omega, by omega, G6.out, G7.out, FP.out, F3.out, F4.out, FB.out⟩
    · go_simp
      obtain ⟨b7, hbb⟩ : ∃ b7, b7 = v_65.heap.size := ⟨_, rfl⟩
      obtain ⟨v_109, hw2⟩ : ∃ v_109, v_109 = v_65.alloc (.cells #[.nilFunc] 82) := ⟨_, rfl⟩
      have nb7_0 := FP.out.lt
      rw [← hbb] at nb7_0
      have nb7_1 := F3.out.lt
      rw [← hbb] at nb7_1
      have nb7_2 := F4.out.lt
      rw [← hbb] at nb7_2
      have G7 : Hid (Blk v_109 b7 [.nilFunc]) := by rw [hw2]; exact Blk.at_ v_65 #[.nilFunc] _ _ hbb
      have FP : Hid (Blk v_109 pb [.int .i64 h.fl, .int .i64 h.gp, .int .i64 h.ln, .int .i64 h.rf, .int .i64 h.sp, .int .i64 h.pu, .int .i64 h.br, .int .i64 h.dr, .int .i64 h.lv, .int .i64 h.dO, .int .i64 h.ld, .int .i64 h.qu, .int .i64 (massN r), .int .i64 0, .int .i64 s.i, .int .i64 s.o, .int .i64 s.l, .int .i64 c.pos, .int .i64 c.vel, .int .i64 c.door]) := by rw [hw2]; exact FP.out.alloc _
      have F3 : Hid (Blk v_109 b3 [.pointer (some ⟨pb, 0, none⟩)]) := by rw [hw2]; exact F3.out.alloc _
      have F4 : Hid (Blk v_109 b4 [.int .i64 x.push, .bool x.brk, .bool x.opn]) := by rw [hw2]; exact F4.out.alloc _
      have FB : Hid (Below pb w v_109) := by rw [hw2]; exact FB.out.alloc (Nat.le_of_lt (Nat.lt_of_lt_of_le lt0 FB.out.size)) _
      rw [← hw2, ← hbb]
      clear hbb hw2
      refine hK.out _ _ (by (try dsimp only); first | exact ⟨F3.out, F4.out⟩ | go_keep) (fun hHeld => ?_)
      clear hK K
      try simp only [Act.put, List.getElem_toArray, List.getElem_cons_succ, List.getElem_cons_zero, List.setIfInBounds_toArray, List.set_cons_zero, List.set_cons_succ]
      refine wpAnyH_ready (rs := [1, 5]) (by kernel_rfl) (by simp) ?_
      refine (AllReadyH.cons rfl (fun K hK => ?_) (AllReadyH.cons rfl (fun K hK => ?_) AllReadyH.nil))
      · go_simp
        refine (CE _ FP.out).mono ?_
        rintro e v_110 ⟨rfl, hb⟩
        have FP : Hid (Blk v_110 pb [.int .i64 h.fl, .int .i64 h.gp, .int .i64 h.ln, .int .i64 h.rf, .int .i64 h.sp, .int .i64 h.pu, .int .i64 h.br, .int .i64 h.dr, .int .i64 h.lv, .int .i64 h.dO, .int .i64 h.ld, .int .i64 h.qu, .int .i64 (massN r), .int .i64 0, .int .i64 s.i, .int .i64 s.o, .int .i64 s.l, .int .i64 c.pos, .int .i64 c.vel, .int .i64 c.door]) := FP.out.below hb FP.out.lt
        have F3 : Hid (Blk v_110 b3 [.pointer (some ⟨pb, 0, none⟩)]) := F3.out.below hb F3.out.lt
        have F4 : Hid (Blk v_110 b4 [.int .i64 x.push, .bool x.brk, .bool x.opn]) := F4.out.below hb F4.out.lt
        have FB : Hid (Below pb w v_110) := FB.out.trans (hb.mono (Nat.le_of_lt (Nat.lt_of_lt_of_le lt0 FB.out.size)))
        have G7 : Hid (Blk v_110 b7 [.nilFunc]) := G7.out.below hb G7.out.lt
        clear hb
        try dsimp only
        refine hK.out _ _ (by (try dsimp only); first | exact ⟨F3.out, F4.out⟩ | go_keep) (fun hHeld => ?_)
        clear hK K
        try simp only [Act.put, List.getElem_toArray, List.getElem_cons_succ, List.getElem_cons_zero, List.setIfInBounds_toArray, List.set_cons_zero, List.set_cons_succ]
        refine wpAnyH_ready (rs := [4, 5]) (by kernel_rfl) (by simp) ?_
        refine (AllReadyH.cons rfl (fun K hK => ?_) (AllReadyH.cons rfl (fun K hK => ?_) AllReadyH.nil))
        · go_simp
          refine (CF _).mono ?_
          rintro e v_111 ⟨rfl, hb⟩
          have FP : Hid (Blk v_111 pb [.int .i64 h.fl, .int .i64 h.gp, .int .i64 h.ln, .int .i64 h.rf, .int .i64 h.sp, .int .i64 h.pu, .int .i64 h.br, .int .i64 h.dr, .int .i64 h.lv, .int .i64 h.dO, .int .i64 h.ld, .int .i64 h.qu, .int .i64 (massN r), .int .i64 0, .int .i64 s.i, .int .i64 s.o, .int .i64 s.l, .int .i64 c.pos, .int .i64 c.vel, .int .i64 c.door]) := FP.out.below hb FP.out.lt
          have F3 : Hid (Blk v_111 b3 [.pointer (some ⟨pb, 0, none⟩)]) := F3.out.below hb F3.out.lt
          have F4 : Hid (Blk v_111 b4 [.int .i64 x.push, .bool x.brk, .bool x.opn]) := F4.out.below hb F4.out.lt
          have FB : Hid (Below pb w v_111) := FB.out.trans (hb.mono (Nat.le_of_lt (Nat.lt_of_lt_of_le lt0 FB.out.size)))
          have G7 : Hid (Blk v_111 b7 [.nilFunc]) := G7.out.below hb G7.out.lt
          clear hb
          try dsimp only
          refine hK.out _ _ (by (try dsimp only); first | exact ⟨F3.out, F4.out⟩ | go_keep) (fun hHeld => ?_)
          clear hK K
          try simp only [Act.put, List.getElem_toArray, List.getElem_cons_succ, List.getElem_cons_zero, List.setIfInBounds_toArray, List.set_cons_zero, List.set_cons_succ]
          refine wpAnyH_ready (rs := [5]) (by kernel_rfl) (by simp) ?_
          refine (AllReadyH.cons rfl (fun K hK => ?_) AllReadyH.nil)
          go_simp
          obtain ⟨b6, hbb⟩ : ∃ b6, b6 = v_111.heap.size := ⟨_, rfl⟩
          obtain ⟨v_112, hw2⟩ : ∃ v_112, v_112 = v_111.alloc (.cells #[.int .i64 0] 2) := ⟨_, rfl⟩
          have nb6_0 := FP.out.lt
          rw [← hbb] at nb6_0
          have nb6_1 := F3.out.lt
          rw [← hbb] at nb6_1
          have nb6_2 := F4.out.lt
          rw [← hbb] at nb6_2
          have nb6_4 := G7.out.lt
          rw [← hbb] at nb6_4
          have G6 : Hid (Blk v_112 b6 [.int .i64 0]) := by rw [hw2]; exact Blk.at_ v_111 #[.int .i64 0] _ _ hbb
          have FP : Hid (Blk v_112 pb [.int .i64 h.fl, .int .i64 h.gp, .int .i64 h.ln, .int .i64 h.rf, .int .i64 h.sp, .int .i64 h.pu, .int .i64 h.br, .int .i64 h.dr, .int .i64 h.lv, .int .i64 h.dO, .int .i64 h.ld, .int .i64 h.qu, .int .i64 (massN r), .int .i64 0, .int .i64 s.i, .int .i64 s.o, .int .i64 s.l, .int .i64 c.pos, .int .i64 c.vel, .int .i64 c.door]) := by rw [hw2]; exact FP.out.alloc _
          have F3 : Hid (Blk v_112 b3 [.pointer (some ⟨pb, 0, none⟩)]) := by rw [hw2]; exact F3.out.alloc _
          have F4 : Hid (Blk v_112 b4 [.int .i64 x.push, .bool x.brk, .bool x.opn]) := by rw [hw2]; exact F4.out.alloc _
          have FB : Hid (Below pb w v_112) := by rw [hw2]; exact FB.out.alloc (Nat.le_of_lt (Nat.lt_of_lt_of_le lt0 FB.out.size)) _
          have G7 : Hid (Blk v_112 b7 [.nilFunc]) := by rw [hw2]; exact G7.out.alloc _
          rw [← hw2, ← hbb]
          clear hbb hw2
          refine hK.out _ _ (by (try dsimp only); first | exact ⟨F3.out, F4.out⟩ | go_keep) (fun hHeld => ?_)
          clear hK K
          try simp only [Act.put, List.getElem_toArray, List.getElem_cons_succ, List.getElem_cons_zero, List.setIfInBounds_toArray, List.set_cons_zero, List.set_cons_succ]
          refine wpAnyH_ready (rs := [7]) (by kernel_rfl) (by simp) ?_
          refine (AllReadyH.cons rfl (fun K hK => ?_) AllReadyH.nil)
          have k0 := G6.out.c 0 _ rfl
          have kf0 := G6.out.f 0 (by decide)
          go_simp
          obtain ⟨v_113, hw2⟩ : ∃ v_113, v_113 = putB v_112 b6 0 [.int .i64 ec] := ⟨_, rfl⟩
          change K _ (putB v_112 b6 0 [.int .i64 ec])
          rw [← hw2]
          clear k0 kf0
          have FP : Hid (Blk v_113 pb [.int .i64 h.fl, .int .i64 h.gp, .int .i64 h.ln, .int .i64 h.rf, .int .i64 h.sp, .int .i64 h.pu, .int .i64 h.br, .int .i64 h.dr, .int .i64 h.lv, .int .i64 h.dO, .int .i64 h.ld, .int .i64 h.qu, .int .i64 (massN r), .int .i64 0, .int .i64 s.i, .int .i64 s.o, .int .i64 s.l, .int .i64 c.pos, .int .i64 c.vel, .int .i64 c.door]) := by rw [hw2]; exact Blk.putB_other (by omega) _ 0 FP.out
          have F3 : Hid (Blk v_113 b3 [.pointer (some ⟨pb, 0, none⟩)]) := by rw [hw2]; exact Blk.putB_other (by omega) _ 0 F3.out
          have F4 : Hid (Blk v_113 b4 [.int .i64 x.push, .bool x.brk, .bool x.opn]) := by rw [hw2]; exact Blk.putB_other (by omega) _ 0 F4.out
          have FB : Hid (Below pb w v_113) := by rw [hw2]; exact below_putB FB.out (by omega) _ 0
          have G7 : Hid (Blk v_113 b7 [.nilFunc]) := by rw [hw2]; exact Blk.putB_other (by omega) _ 0 G7.out
          have G6 : Hid (Blk v_113 b6 [.int .i64 ec]) := by rw [hw2]; exact G6.out.put [.int .i64 ec] rfl
          clear hw2
          refine hK.out _ _ (by (try dsimp only); first | exact ⟨F3.out, F4.out⟩ | go_keep) (fun hHeld => ?_)
          clear hK K
          try simp only [Act.put, List.getElem_toArray, List.getElem_cons_succ, List.getElem_cons_zero, List.setIfInBounds_toArray, List.set_cons_zero, List.set_cons_succ]
          refine wpAnyH_ready (rs := [8]) (by kernel_rfl) (by simp) ?_
          refine (AllReadyH.cons rfl (fun K hK => ?_) AllReadyH.nil)
          have k0 := G7.out.c 0 _ rfl
          have kf0 := G7.out.f 0 (by decide)
          go_simp
          obtain ⟨v_114, hw2⟩ : ∃ v_114, v_114 = putB v_113 b7 0 [.func (.func 94) #[.pointer (some ⟨pb, 0, none⟩)] #[]] := ⟨_, rfl⟩
          change K _ (putB v_113 b7 0 [.func (.func 94) #[.pointer (some ⟨pb, 0, none⟩)] #[]])
          rw [← hw2]
          clear k0 kf0
          have FP : Hid (Blk v_114 pb [.int .i64 h.fl, .int .i64 h.gp, .int .i64 h.ln, .int .i64 h.rf, .int .i64 h.sp, .int .i64 h.pu, .int .i64 h.br, .int .i64 h.dr, .int .i64 h.lv, .int .i64 h.dO, .int .i64 h.ld, .int .i64 h.qu, .int .i64 (massN r), .int .i64 0, .int .i64 s.i, .int .i64 s.o, .int .i64 s.l, .int .i64 c.pos, .int .i64 c.vel, .int .i64 c.door]) := by rw [hw2]; exact Blk.putB_other (by omega) _ 0 FP.out
          have F3 : Hid (Blk v_114 b3 [.pointer (some ⟨pb, 0, none⟩)]) := by rw [hw2]; exact Blk.putB_other (by omega) _ 0 F3.out
          have F4 : Hid (Blk v_114 b4 [.int .i64 x.push, .bool x.brk, .bool x.opn]) := by rw [hw2]; exact Blk.putB_other (by omega) _ 0 F4.out
          have FB : Hid (Below pb w v_114) := by rw [hw2]; exact below_putB FB.out (by omega) _ 0
          have G7 : Hid (Blk v_114 b7 [.func (.func 94) #[.pointer (some ⟨pb, 0, none⟩)] #[]]) := by rw [hw2]; exact G7.out.put [.func (.func 94) #[.pointer (some ⟨pb, 0, none⟩)] #[]] rfl
          have G6 : Hid (Blk v_114 b6 [.int .i64 ec]) := by rw [hw2]; exact Blk.putB_other (by omega) _ 0 G6.out
          clear hw2
          refine hK.out _ _ (by (try dsimp only); first | exact ⟨F3.out, F4.out⟩ | go_keep) (fun hHeld => ?_)
          clear hK K
          try simp only [Act.put, List.getElem_toArray, List.getElem_cons_succ, List.getElem_cons_zero, List.setIfInBounds_toArray, List.set_cons_zero, List.set_cons_succ]
          refine wpAnyH_done (by kernel_rfl) ?_ _
          go_wp2_with fail
          go_meet
          case rel => exact ⟨b6, b7, rfl, rfl, by omega, by omega, G6.out, G7.out, FP.out, F3.out, F4.out, FB.out⟩
        · go_simp
          obtain ⟨b6, hbb⟩ : ∃ b6, b6 = v_110.heap.size := ⟨_, rfl⟩
          obtain ⟨v_115, hw2⟩ : ∃ v_115, v_115 = v_110.alloc (.cells #[.int .i64 0] 2) := ⟨_, rfl⟩
          have nb6_0 := FP.out.lt
          rw [← hbb] at nb6_0
          have nb6_1 := F3.out.lt
          rw [← hbb] at nb6_1
          have nb6_2 := F4.out.lt
          rw [← hbb] at nb6_2
          have nb6_4 := G7.out.lt
          rw [← hbb] at nb6_4
          have G6 : Hid (Blk v_115 b6 [.int .i64 0]) := by rw [hw2]; exact Blk.at_ v_110 #[.int .i64 0] _ _ hbb
          have FP : Hid (Blk v_115 pb [.int .i64 h.fl, .int .i64 h.gp, .int .i64 h.ln, .int .i64 h.rf, .int .i64 h.sp, .int .i64 h.pu, .int .i64 h.br, .int .i64 h.dr, .int .i64 h.lv, .int .i64 h.dO, .int .i64 h.ld, .int .i64 h.qu, .int .i64 (massN r), .int .i64 0, .int .i64 s.i, .int .i64 s.o, .int .i64 s.l, .int .i64 c.pos, .int .i64 c.vel, .int .i64 c.door]) := by rw [hw2]; exact FP.out.alloc _
          have F3 : Hid (Blk v_115 b3 [.pointer (some ⟨pb, 0, none⟩)]) := by rw [hw2]; exact F3.out.alloc _
          have F4 : Hid (Blk v_115 b4 [.int .i64 x.push, .bool x.brk, .bool x.opn]) := by rw [hw2]; exact F4.out.alloc _
          have FB : Hid (Below pb w v_115) := by rw [hw2]; exact FB.out.alloc (Nat.le_of_lt (Nat.lt_of_lt_of_le lt0 FB.out.size)) _
          have G7 : Hid (Blk v_115 b7 [.nilFunc]) := by rw [hw2]; exact G7.out.alloc _
          rw [← hw2, ← hbb]
          clear hbb hw2
          refine hK.out _ _ (by (try dsimp only); first | exact ⟨F3.out, F4.out⟩ | go_keep) (fun hHeld => ?_)
          clear hK K
          try simp only [Act.put, List.getElem_toArray, List.getElem_cons_succ, List.getElem_cons_zero, List.setIfInBounds_toArray, List.set_cons_zero, List.set_cons_succ]
          refine wpAnyH_ready (rs := [4]) (by kernel_rfl) (by simp) ?_
          refine (AllReadyH.cons rfl (fun K hK => ?_) AllReadyH.nil)
          go_simp
          refine (CF _).mono ?_
          rintro e v_116 ⟨rfl, hb⟩
          have FP : Hid (Blk v_116 pb [.int .i64 h.fl, .int .i64 h.gp, .int .i64 h.ln, .int .i64 h.rf, .int .i64 h.sp, .int .i64 h.pu, .int .i64 h.br, .int .i64 h.dr, .int .i64 h.lv, .int .i64 h.dO, .int .i64 h.ld, .int .i64 h.qu, .int .i64 (massN r), .int .i64 0, .int .i64 s.i, .int .i64 s.o, .int .i64 s.l, .int .i64 c.pos, .int .i64 c.vel, .int .i64 c.door]) := FP.out.below hb FP.out.lt
          have F3 : Hid (Blk v_116 b3 [.pointer (some ⟨pb, 0, none⟩)]) := F3.out.below hb F3.out.lt
          have F4 : Hid (Blk v_116 b4 [.int .i64 x.push, .bool x.brk, .bool x.opn]) := F4.out.below hb F4.out.lt
          have FB : Hid (Below pb w v_116) := FB.out.trans (hb.mono (Nat.le_of_lt (Nat.lt_of_lt_of_le lt0 FB.out.size)))
          have G7 : Hid (Blk v_116 b7 [.nilFunc]) := G7.out.below hb G7.out.lt
          have G6 : Hid (Blk v_116 b6 [.int .i64 0]) := G6.out.below hb G6.out.lt
          clear hb
          try dsimp only
          refine hK.out _ _ (by (try dsimp only); first | exact ⟨F3.out, F4.out⟩ | go_keep) (fun hHeld => ?_)
          clear hK K
          try simp only [Act.put, List.getElem_toArray, List.getElem_cons_succ, List.getElem_cons_zero, List.setIfInBounds_toArray, List.set_cons_zero, List.set_cons_succ]
          refine wpAnyH_ready (rs := [7]) (by kernel_rfl) (by simp) ?_
          refine (AllReadyH.cons rfl (fun K hK => ?_) AllReadyH.nil)
          have k0 := G6.out.c 0 _ rfl
          have kf0 := G6.out.f 0 (by decide)
          go_simp
          obtain ⟨v_117, hw2⟩ : ∃ v_117, v_117 = putB v_116 b6 0 [.int .i64 ec] := ⟨_, rfl⟩
          change K _ (putB v_116 b6 0 [.int .i64 ec])
          rw [← hw2]
          clear k0 kf0
          have FP : Hid (Blk v_117 pb [.int .i64 h.fl, .int .i64 h.gp, .int .i64 h.ln, .int .i64 h.rf, .int .i64 h.sp, .int .i64 h.pu, .int .i64 h.br, .int .i64 h.dr, .int .i64 h.lv, .int .i64 h.dO, .int .i64 h.ld, .int .i64 h.qu, .int .i64 (massN r), .int .i64 0, .int .i64 s.i, .int .i64 s.o, .int .i64 s.l, .int .i64 c.pos, .int .i64 c.vel, .int .i64 c.door]) := by rw [hw2]; exact Blk.putB_other (by omega) _ 0 FP.out
          have F3 : Hid (Blk v_117 b3 [.pointer (some ⟨pb, 0, none⟩)]) := by rw [hw2]; exact Blk.putB_other (by omega) _ 0 F3.out
          have F4 : Hid (Blk v_117 b4 [.int .i64 x.push, .bool x.brk, .bool x.opn]) := by rw [hw2]; exact Blk.putB_other (by omega) _ 0 F4.out
          have FB : Hid (Below pb w v_117) := by rw [hw2]; exact below_putB FB.out (by omega) _ 0
          have G7 : Hid (Blk v_117 b7 [.nilFunc]) := by rw [hw2]; exact Blk.putB_other (by omega) _ 0 G7.out
          have G6 : Hid (Blk v_117 b6 [.int .i64 ec]) := by rw [hw2]; exact G6.out.put [.int .i64 ec] rfl
          clear hw2
          refine hK.out _ _ (by (try dsimp only); first | exact ⟨F3.out, F4.out⟩ | go_keep) (fun hHeld => ?_)
          clear hK K
          try simp only [Act.put, List.getElem_toArray, List.getElem_cons_succ, List.getElem_cons_zero, List.setIfInBounds_toArray, List.set_cons_zero, List.set_cons_succ]
          refine wpAnyH_ready (rs := [8]) (by kernel_rfl) (by simp) ?_
          refine (AllReadyH.cons rfl (fun K hK => ?_) AllReadyH.nil)
          have k0 := G7.out.c 0 _ rfl
          have kf0 := G7.out.f 0 (by decide)
          go_simp
          obtain ⟨v_118, hw2⟩ : ∃ v_118, v_118 = putB v_117 b7 0 [.func (.func 94) #[.pointer (some ⟨pb, 0, none⟩)] #[]] := ⟨_, rfl⟩
          change K _ (putB v_117 b7 0 [.func (.func 94) #[.pointer (some ⟨pb, 0, none⟩)] #[]])
          rw [← hw2]
          clear k0 kf0
          have FP : Hid (Blk v_118 pb [.int .i64 h.fl, .int .i64 h.gp, .int .i64 h.ln, .int .i64 h.rf, .int .i64 h.sp, .int .i64 h.pu, .int .i64 h.br, .int .i64 h.dr, .int .i64 h.lv, .int .i64 h.dO, .int .i64 h.ld, .int .i64 h.qu, .int .i64 (massN r), .int .i64 0, .int .i64 s.i, .int .i64 s.o, .int .i64 s.l, .int .i64 c.pos, .int .i64 c.vel, .int .i64 c.door]) := by rw [hw2]; exact Blk.putB_other (by omega) _ 0 FP.out
          have F3 : Hid (Blk v_118 b3 [.pointer (some ⟨pb, 0, none⟩)]) := by rw [hw2]; exact Blk.putB_other (by omega) _ 0 F3.out
          have F4 : Hid (Blk v_118 b4 [.int .i64 x.push, .bool x.brk, .bool x.opn]) := by rw [hw2]; exact Blk.putB_other (by omega) _ 0 F4.out
          have FB : Hid (Below pb w v_118) := by rw [hw2]; exact below_putB FB.out (by omega) _ 0
          have G7 : Hid (Blk v_118 b7 [.func (.func 94) #[.pointer (some ⟨pb, 0, none⟩)] #[]]) := by rw [hw2]; exact G7.out.put [.func (.func 94) #[.pointer (some ⟨pb, 0, none⟩)] #[]] rfl
          have G6 : Hid (Blk v_118 b6 [.int .i64 ec]) := by rw [hw2]; exact Blk.putB_other (by omega) _ 0 G6.out
          clear hw2
          refine hK.out _ _ (by (try dsimp only); first | exact ⟨F3.out, F4.out⟩ | go_keep) (fun hHeld => ?_)
          clear hK K
          try simp only [Act.put, List.getElem_toArray, List.getElem_cons_succ, List.getElem_cons_zero, List.setIfInBounds_toArray, List.set_cons_zero, List.set_cons_succ]
          refine wpAnyH_done (by kernel_rfl) ?_ _
          go_wp2_with fail
          go_meet
          case rel => exact ⟨b6, b7, rfl, rfl, by omega, by omega, G6.out, G7.out, FP.out, F3.out, F4.out, FB.out⟩
      · go_simp
        obtain ⟨b6, hbb⟩ : ∃ b6, b6 = v_109.heap.size := ⟨_, rfl⟩
        obtain ⟨v_119, hw2⟩ : ∃ v_119, v_119 = v_109.alloc (.cells #[.int .i64 0] 2) := ⟨_, rfl⟩
        have nb6_0 := FP.out.lt
        rw [← hbb] at nb6_0
        have nb6_1 := F3.out.lt
        rw [← hbb] at nb6_1
        have nb6_2 := F4.out.lt
        rw [← hbb] at nb6_2
        have nb6_4 := G7.out.lt
        rw [← hbb] at nb6_4
        have G6 : Hid (Blk v_119 b6 [.int .i64 0]) := by rw [hw2]; exact Blk.at_ v_109 #[.int .i64 0] _ _ hbb
        have FP : Hid (Blk v_119 pb [.int .i64 h.fl, .int .i64 h.gp, .int .i64 h.ln, .int .i64 h.rf, .int .i64 h.sp, .int .i64 h.pu, .int .i64 h.br, .int .i64 h.dr, .int .i64 h.lv, .int .i64 h.dO, .int .i64 h.ld, .int .i64 h.qu, .int .i64 (massN r), .int .i64 0, .int .i64 s.i, .int .i64 s.o, .int .i64 s.l, .int .i64 c.pos, .int .i64 c.vel, .int .i64 c.door]) := by rw [hw2]; exact FP.out.alloc _
        have F3 : Hid (Blk v_119 b3 [.pointer (some ⟨pb, 0, none⟩)]) := by rw [hw2]; exact F3.out.alloc _
        have F4 : Hid (Blk v_119 b4 [.int .i64 x.push, .bool x.brk, .bool x.opn]) := by rw [hw2]; exact F4.out.alloc _
        have FB : Hid (Below pb w v_119) := by rw [hw2]; exact FB.out.alloc (Nat.le_of_lt (Nat.lt_of_lt_of_le lt0 FB.out.size)) _
        have G7 : Hid (Blk v_119 b7 [.nilFunc]) := by rw [hw2]; exact G7.out.alloc _
        rw [← hw2, ← hbb]
        clear hbb hw2
        refine hK.out _ _ (by (try dsimp only); first | exact ⟨F3.out, F4.out⟩ | go_keep) (fun hHeld => ?_)
        clear hK K
        try simp only [Act.put, List.getElem_toArray, List.getElem_cons_succ, List.getElem_cons_zero, List.setIfInBounds_toArray, List.set_cons_zero, List.set_cons_succ]
        refine wpAnyH_ready (rs := [1]) (by kernel_rfl) (by simp) ?_
        refine (AllReadyH.cons rfl (fun K hK => ?_) AllReadyH.nil)
        go_simp
        refine (CE _ FP.out).mono ?_
        rintro e v_120 ⟨rfl, hb⟩
        have FP : Hid (Blk v_120 pb [.int .i64 h.fl, .int .i64 h.gp, .int .i64 h.ln, .int .i64 h.rf, .int .i64 h.sp, .int .i64 h.pu, .int .i64 h.br, .int .i64 h.dr, .int .i64 h.lv, .int .i64 h.dO, .int .i64 h.ld, .int .i64 h.qu, .int .i64 (massN r), .int .i64 0, .int .i64 s.i, .int .i64 s.o, .int .i64 s.l, .int .i64 c.pos, .int .i64 c.vel, .int .i64 c.door]) := FP.out.below hb FP.out.lt
        have F3 : Hid (Blk v_120 b3 [.pointer (some ⟨pb, 0, none⟩)]) := F3.out.below hb F3.out.lt
        have F4 : Hid (Blk v_120 b4 [.int .i64 x.push, .bool x.brk, .bool x.opn]) := F4.out.below hb F4.out.lt
        have FB : Hid (Below pb w v_120) := FB.out.trans (hb.mono (Nat.le_of_lt (Nat.lt_of_lt_of_le lt0 FB.out.size)))
        have G7 : Hid (Blk v_120 b7 [.nilFunc]) := G7.out.below hb G7.out.lt
        have G6 : Hid (Blk v_120 b6 [.int .i64 0]) := G6.out.below hb G6.out.lt
        clear hb
        try dsimp only
        refine hK.out _ _ (by (try dsimp only); first | exact ⟨F3.out, F4.out⟩ | go_keep) (fun hHeld => ?_)
        clear hK K
        try simp only [Act.put, List.getElem_toArray, List.getElem_cons_succ, List.getElem_cons_zero, List.setIfInBounds_toArray, List.set_cons_zero, List.set_cons_succ]
        refine wpAnyH_ready (rs := [4]) (by kernel_rfl) (by simp) ?_
        refine (AllReadyH.cons rfl (fun K hK => ?_) AllReadyH.nil)
        go_simp
        refine (CF _).mono ?_
        rintro e v_121 ⟨rfl, hb⟩
        have FP : Hid (Blk v_121 pb [.int .i64 h.fl, .int .i64 h.gp, .int .i64 h.ln, .int .i64 h.rf, .int .i64 h.sp, .int .i64 h.pu, .int .i64 h.br, .int .i64 h.dr, .int .i64 h.lv, .int .i64 h.dO, .int .i64 h.ld, .int .i64 h.qu, .int .i64 (massN r), .int .i64 0, .int .i64 s.i, .int .i64 s.o, .int .i64 s.l, .int .i64 c.pos, .int .i64 c.vel, .int .i64 c.door]) := FP.out.below hb FP.out.lt
        have F3 : Hid (Blk v_121 b3 [.pointer (some ⟨pb, 0, none⟩)]) := F3.out.below hb F3.out.lt
        have F4 : Hid (Blk v_121 b4 [.int .i64 x.push, .bool x.brk, .bool x.opn]) := F4.out.below hb F4.out.lt
        have FB : Hid (Below pb w v_121) := FB.out.trans (hb.mono (Nat.le_of_lt (Nat.lt_of_lt_of_le lt0 FB.out.size)))
        have G7 : Hid (Blk v_121 b7 [.nilFunc]) := G7.out.below hb G7.out.lt
        have G6 : Hid (Blk v_121 b6 [.int .i64 0]) := G6.out.below hb G6.out.lt
        clear hb
        try dsimp only
        refine hK.out _ _ (by (try dsimp only); first | exact ⟨F3.out, F4.out⟩ | go_keep) (fun hHeld => ?_)
        clear hK K
        try simp only [Act.put, List.getElem_toArray, List.getElem_cons_succ, List.getElem_cons_zero, List.setIfInBounds_toArray, List.set_cons_zero, List.set_cons_succ]
        refine wpAnyH_ready (rs := [7]) (by kernel_rfl) (by simp) ?_
        refine (AllReadyH.cons rfl (fun K hK => ?_) AllReadyH.nil)
        have k0 := G6.out.c 0 _ rfl
        have kf0 := G6.out.f 0 (by decide)
        go_simp
        obtain ⟨v_122, hw2⟩ : ∃ v_122, v_122 = putB v_121 b6 0 [.int .i64 ec] := ⟨_, rfl⟩
        change K _ (putB v_121 b6 0 [.int .i64 ec])
        rw [← hw2]
        clear k0 kf0
        have FP : Hid (Blk v_122 pb [.int .i64 h.fl, .int .i64 h.gp, .int .i64 h.ln, .int .i64 h.rf, .int .i64 h.sp, .int .i64 h.pu, .int .i64 h.br, .int .i64 h.dr, .int .i64 h.lv, .int .i64 h.dO, .int .i64 h.ld, .int .i64 h.qu, .int .i64 (massN r), .int .i64 0, .int .i64 s.i, .int .i64 s.o, .int .i64 s.l, .int .i64 c.pos, .int .i64 c.vel, .int .i64 c.door]) := by rw [hw2]; exact Blk.putB_other (by omega) _ 0 FP.out
        have F3 : Hid (Blk v_122 b3 [.pointer (some ⟨pb, 0, none⟩)]) := by rw [hw2]; exact Blk.putB_other (by omega) _ 0 F3.out
        have F4 : Hid (Blk v_122 b4 [.int .i64 x.push, .bool x.brk, .bool x.opn]) := by rw [hw2]; exact Blk.putB_other (by omega) _ 0 F4.out
        have FB : Hid (Below pb w v_122) := by rw [hw2]; exact below_putB FB.out (by omega) _ 0
        have G7 : Hid (Blk v_122 b7 [.nilFunc]) := by rw [hw2]; exact Blk.putB_other (by omega) _ 0 G7.out
        have G6 : Hid (Blk v_122 b6 [.int .i64 ec]) := by rw [hw2]; exact G6.out.put [.int .i64 ec] rfl
        clear hw2
        refine hK.out _ _ (by (try dsimp only); first | exact ⟨F3.out, F4.out⟩ | go_keep) (fun hHeld => ?_)
        clear hK K
        try simp only [Act.put, List.getElem_toArray, List.getElem_cons_succ, List.getElem_cons_zero, List.setIfInBounds_toArray, List.set_cons_zero, List.set_cons_succ]
        refine wpAnyH_ready (rs := [8]) (by kernel_rfl) (by simp) ?_
        refine (AllReadyH.cons rfl (fun K hK => ?_) AllReadyH.nil)
        have k0 := G7.out.c 0 _ rfl
        have kf0 := G7.out.f 0 (by decide)
        go_simp
        obtain ⟨v_123, hw2⟩ : ∃ v_123, v_123 = putB v_122 b7 0 [.func (.func 94) #[.pointer (some ⟨pb, 0, none⟩)] #[]] := ⟨_, rfl⟩
        change K _ (putB v_122 b7 0 [.func (.func 94) #[.pointer (some ⟨pb, 0, none⟩)] #[]])
        rw [← hw2]
        clear k0 kf0
        have FP : Hid (Blk v_123 pb [.int .i64 h.fl, .int .i64 h.gp, .int .i64 h.ln, .int .i64 h.rf, .int .i64 h.sp, .int .i64 h.pu, .int .i64 h.br, .int .i64 h.dr, .int .i64 h.lv, .int .i64 h.dO, .int .i64 h.ld, .int .i64 h.qu, .int .i64 (massN r), .int .i64 0, .int .i64 s.i, .int .i64 s.o, .int .i64 s.l, .int .i64 c.pos, .int .i64 c.vel, .int .i64 c.door]) := by rw [hw2]; exact Blk.putB_other (by omega) _ 0 FP.out
        have F3 : Hid (Blk v_123 b3 [.pointer (some ⟨pb, 0, none⟩)]) := by rw [hw2]; exact Blk.putB_other (by omega) _ 0 F3.out
        have F4 : Hid (Blk v_123 b4 [.int .i64 x.push, .bool x.brk, .bool x.opn]) := by rw [hw2]; exact Blk.putB_other (by omega) _ 0 F4.out
        have FB : Hid (Below pb w v_123) := by rw [hw2]; exact below_putB FB.out (by omega) _ 0
        have G7 : Hid (Blk v_123 b7 [.func (.func 94) #[.pointer (some ⟨pb, 0, none⟩)] #[]]) := by rw [hw2]; exact G7.out.put [.func (.func 94) #[.pointer (some ⟨pb, 0, none⟩)] #[]] rfl
        have G6 : Hid (Blk v_123 b6 [.int .i64 ec]) := by rw [hw2]; exact Blk.putB_other (by omega) _ 0 G6.out
        clear hw2
        refine hK.out _ _ (by (try dsimp only); first | exact ⟨F3.out, F4.out⟩ | go_keep) (fun hHeld => ?_)
        clear hK K
        try simp only [Act.put, List.getElem_toArray, List.getElem_cons_succ, List.getElem_cons_zero, List.setIfInBounds_toArray, List.set_cons_zero, List.set_cons_succ]
        refine wpAnyH_done (by kernel_rfl) ?_ _
        go_wp2_with fail
        go_meet
        case rel => exact ⟨b6, b7, rfl, rfl, by omega, by omega, G6.out, G7.out, FP.out, F3.out, F4.out, FB.out⟩
  case rest =>
  obtain ⟨b6, b7, rfl, rfl, n6, n7, h_G6, h_G7, h_FP, h_F3, h_F4, hB⟩ := hcut
  have G6 : Hid (Blk wc b6 [.int .i64 ec]) := h_G6
  have G7 : Hid (Blk wc b7 [.func (.func 94) #[.pointer (some ⟨pb, 0, none⟩)] #[]]) := h_G7
  clear h_G6 h_G7
  have FP : Hid (Blk wc pb [.int .i64 h.fl, .int .i64 h.gp, .int .i64 h.ln, .int .i64 h.rf, .int .i64 h.sp, .int .i64 h.pu, .int .i64 h.br, .int .i64 h.dr, .int .i64 h.lv, .int .i64 h.dO, .int .i64 h.ld, .int .i64 h.qu, .int .i64 (massN r), .int .i64 0, .int .i64 s.i, .int .i64 s.o, .int .i64 s.l, .int .i64 c.pos, .int .i64 c.vel, .int .i64 c.door]) := h_FP
  have F3 : Hid (Blk wc b3 [.pointer (some ⟨pb, 0, none⟩)]) := h_F3
  have F4 : Hid (Blk wc b4 [.int .i64 x.push, .bool x.brk, .bool x.opn]) := h_F4
  have FB : Hid (Below pb w wc) := hB
  clear h_FP h_F3 h_F4 hB
  go_upto_region 3 with fail
  have FP : Hid (Blk wc.drew pb [.int .i64 h.fl, .int .i64 h.gp, .int .i64 h.ln, .int .i64 h.rf, .int .i64 h.sp, .int .i64 h.pu, .int .i64 h.br, .int .i64 h.dr, .int .i64 h.lv, .int .i64 h.dO, .int .i64 h.ld, .int .i64 h.qu, .int .i64 (massN r), .int .i64 0, .int .i64 s.i, .int .i64 s.o, .int .i64 s.l, .int .i64 c.pos, .int .i64 c.vel, .int .i64 c.door]) := FP.out.below (Below.refl _ _).drew FP.out.lt
  have F3 : Hid (Blk wc.drew b3 [.pointer (some ⟨pb, 0, none⟩)]) := F3.out.below (Below.refl _ _).drew F3.out.lt
  have F4 : Hid (Blk wc.drew b4 [.int .i64 x.push, .bool x.brk, .bool x.opn]) := F4.out.below (Below.refl _ _).drew F4.out.lt
  have G6 : Hid (Blk wc.drew b6 [.int .i64 ec]) := G6.out.below (Below.refl _ _).drew G6.out.lt
  have G7 : Hid (Blk wc.drew b7 [.func (.func 94) #[.pointer (some ⟨pb, 0, none⟩)] #[]]) := G7.out.below (Below.refl _ _).drew G7.out.lt
  have FB : Hid (Below pb w wc.drew) := FB.out.drew
  refine wp_region_held_drew (S := (fun w'' => Blk w'' b3 ([.pointer (some ⟨pb, 0, none⟩)]) ∧ Blk w'' b4 ([.int .i64 x.push, .bool x.brk, .bool x.opn]))) (by kernel_rfl) (by (try dsimp only); first | exact ⟨F3.out, F4.out⟩ | go_keep) (fun hHeld => ?_)
  obtain ⟨v_124, hw1⟩ : ∃ v_124, v_124 = wc.drew := ⟨_, rfl⟩
  have FP : Hid (Blk v_124 pb [.int .i64 h.fl, .int .i64 h.gp, .int .i64 h.ln, .int .i64 h.rf, .int .i64 h.sp, .int .i64 h.pu, .int .i64 h.br, .int .i64 h.dr, .int .i64 h.lv, .int .i64 h.dO, .int .i64 h.ld, .int .i64 h.qu, .int .i64 (massN r), .int .i64 0, .int .i64 s.i, .int .i64 s.o, .int .i64 s.l, .int .i64 c.pos, .int .i64 c.vel, .int .i64 c.door]) := by rw [hw1]; exact FP.out
  have F3 : Hid (Blk v_124 b3 [.pointer (some ⟨pb, 0, none⟩)]) := by rw [hw1]; exact F3.out
  have F4 : Hid (Blk v_124 b4 [.int .i64 x.push, .bool x.brk, .bool x.opn]) := by rw [hw1]; exact F4.out
  have G6 : Hid (Blk v_124 b6 [.int .i64 ec]) := by rw [hw1]; exact G6.out
  have G7 : Hid (Blk v_124 b7 [.func (.func 94) #[.pointer (some ⟨pb, 0, none⟩)] #[]]) := by rw [hw1]; exact G7.out
  have FB : Hid (Below pb w v_124) := by rw [hw1]; exact FB.out
  rw [← hw1] at hHeld ⊢
  clear hw1
  refine tkz 0 rfl ?_ (hQ := fun c a w h => leaves_void step_void _ _ _ h) (hy := Or.inl ⟨by kernel_rfl, by (intro wx hSw; have hq0_0 := hSw.1.c 0 _ rfl; (try dsimp only at hSw); go_simp <;> with_reducible rfl)⟩)
  refine tkz 1 rfl ?_ (hQ := fun c a w h => leaves_void step_void _ _ _ h) (hy := Or.inl ⟨by kernel_rfl, by (intro wx hSw; have hq0_0 := hSw.1.c 0 _ rfl; (try dsimp only at hSw); go_simp <;> with_reducible rfl)⟩)
  refine tkz 2 rfl ?_ (hQ := fun c a w h => leaves_void step_void _ _ _ h)
  refine tkz 3 rfl ?_ (hQ := fun c a w h => leaves_void step_void _ _ _ h)
  refine tkz 5 rfl ?_ (hQ := fun c a w h => leaves_void step_void _ _ _ h) (hy := Or.inl ⟨by kernel_rfl, by (intro wx hSw; have hq0_0 := hSw.1.c 0 _ rfl; (try dsimp only at hSw); go_simp <;> with_reducible rfl)⟩)
  refine tkz 6 rfl ?_ (hQ := fun c a w h => leaves_void step_void _ _ _ h)
  refine tkz 7 rfl ?_ (hQ := fun c a w h => leaves_void step_void _ _ _ h)
  refine tkz 8 rfl ?_ (hQ := fun c a w h => leaves_void step_void _ _ _ h)
  refine tkz 10 rfl ?_ (hQ := fun c a w h => leaves_void step_void _ _ _ h) (hy := Or.inl ⟨by kernel_rfl, fun wx hSw => exec_load_blk 42 _ Try.underlying42 (by kernel_rfl) rfl rfl hSw.2⟩)
  refine tkz 11 rfl ?_ (hQ := fun c a w h => leaves_void step_void _ _ _ h)
  refine wpAnyH_ready (rs := [4, 9]) (by kernel_rfl) (by simp) ?_
  refine (AllReadyH.cons rfl (fun K hK => ?_) (AllReadyH.cons rfl (fun K hK => ?_) AllReadyH.nil))
  · have z0 := FP.out.c 0 _ rfl
    have z1 := FP.out.c 1 _ rfl
    have z2 := FP.out.c 2 _ rfl
    have z3 := FP.out.c 3 _ rfl
    have z4 := FP.out.c 4 _ rfl
    have z5 := FP.out.c 5 _ rfl
    have z6 := FP.out.c 6 _ rfl
    have z7 := FP.out.c 7 _ rfl
    have z8 := FP.out.c 8 _ rfl
    have z9 := FP.out.c 9 _ rfl
    have z10 := FP.out.c 10 _ rfl
    have z11 := FP.out.c 11 _ rfl
    go_simp
    refine hK.out _ _ (by (try dsimp only); first | exact ⟨F3.out, F4.out⟩ | go_keep) (fun hHeld => ?_)
    clear hK K
    try simp only [Act.put, List.getElem_toArray, List.getElem_cons_succ, List.getElem_cons_zero, List.setIfInBounds_toArray, List.set_cons_zero, List.set_cons_succ]
    refine wpAnyH_ready (rs := [9]) (by kernel_rfl) (by simp) ?_
    refine (AllReadyH.cons rfl (fun K hK => ?_) AllReadyH.nil)
    have z17 := FP.out.c 17 _ rfl
    have z18 := FP.out.c 18 _ rfl
    have z19 := FP.out.c 19 _ rfl
    go_simp
    refine hK.out _ _ (by (try dsimp only); first | exact ⟨F3.out, F4.out⟩ | go_keep) (fun hHeld => ?_)
    clear hK K
    try simp only [Act.put, List.getElem_toArray, List.getElem_cons_succ, List.getElem_cons_zero, List.setIfInBounds_toArray, List.set_cons_zero, List.set_cons_succ]
    refine wpAnyH_ready (rs := [12]) (by kernel_rfl) (by simp) ?_
    refine (AllReadyH.cons rfl (fun K hK => ?_) AllReadyH.nil)
    go_simp
    refine (CB _).mono ?_
    rintro e v_125 ⟨rfl, hb⟩
    have FP : Hid (Blk v_125 pb [.int .i64 h.fl, .int .i64 h.gp, .int .i64 h.ln, .int .i64 h.rf, .int .i64 h.sp, .int .i64 h.pu, .int .i64 h.br, .int .i64 h.dr, .int .i64 h.lv, .int .i64 h.dO, .int .i64 h.ld, .int .i64 h.qu, .int .i64 (massN r), .int .i64 0, .int .i64 s.i, .int .i64 s.o, .int .i64 s.l, .int .i64 c.pos, .int .i64 c.vel, .int .i64 c.door]) := FP.out.below hb FP.out.lt
    have F3 : Hid (Blk v_125 b3 [.pointer (some ⟨pb, 0, none⟩)]) := F3.out.below hb F3.out.lt
    have F4 : Hid (Blk v_125 b4 [.int .i64 x.push, .bool x.brk, .bool x.opn]) := F4.out.below hb F4.out.lt
    have G6 : Hid (Blk v_125 b6 [.int .i64 ec]) := G6.out.below hb G6.out.lt
    have G7 : Hid (Blk v_125 b7 [.func (.func 94) #[.pointer (some ⟨pb, 0, none⟩)] #[]]) := G7.out.below hb G7.out.lt
    have FB : Hid (Below pb w v_125) := FB.out.trans (hb.mono (Nat.le_of_lt (Nat.lt_of_lt_of_le lt0 FB.out.size)))
    clear hb
    try dsimp only
    refine hK.out _ _ (by (try dsimp only); first | exact ⟨F3.out, F4.out⟩ | go_keep) (fun hHeld => ?_)
    clear hK K
    try simp only [Act.put, List.getElem_toArray, List.getElem_cons_succ, List.getElem_cons_zero, List.setIfInBounds_toArray, List.set_cons_zero, List.set_cons_succ]
    refine tkz 13 rfl ?_ (hQ := fun c a w h => leaves_void step_void _ _ _ h)
    refine tkz 14 rfl ?_ (hQ := fun c a w h => leaves_void step_void _ _ _ h)
    refine tkz 15 rfl ?_ (hQ := fun c a w h => leaves_void step_void _ _ _ h)
    refine wpAnyH_ready (rs := [16]) (by kernel_rfl) (by simp) ?_
    refine (AllReadyH.cons rfl (fun K hK => ?_) AllReadyH.nil)
    have z17 := FP.out.c 17 _ rfl
    have z18 := FP.out.c 18 _ rfl
    have z19 := FP.out.c 19 _ rfl
    have zf17 := FP.out.f 17 (Nat.le_of_ble_eq_true rfl)
    have zf18 := FP.out.f 18 (Nat.le_of_ble_eq_true rfl)
    have zf19 := FP.out.f 19 (Nat.le_of_ble_eq_true rfl)
    go_simp
    obtain ⟨v_126, hw2⟩ : ∃ v_126, v_126 = putB v_125 pb 17 [.int .i64 g.pos, .int .i64 g.vel, .int .i64 g.door] := ⟨_, rfl⟩
    change K _ (putB v_125 pb 17 [.int .i64 g.pos, .int .i64 g.vel, .int .i64 g.door])
    rw [← hw2]
    clear z17 z18 z19 zf17 zf18 zf19
    have FP : Hid (Blk v_126 pb [.int .i64 h.fl, .int .i64 h.gp, .int .i64 h.ln, .int .i64 h.rf, .int .i64 h.sp, .int .i64 h.pu, .int .i64 h.br, .int .i64 h.dr, .int .i64 h.lv, .int .i64 h.dO, .int .i64 h.ld, .int .i64 h.qu, .int .i64 (massN r), .int .i64 0, .int .i64 s.i, .int .i64 s.o, .int .i64 s.l, .int .i64 g.pos, .int .i64 g.vel, .int .i64 g.door]) := by rw [hw2]; exact putB_set [.int .i64 g.pos, .int .i64 g.vel, .int .i64 g.door] _ 17 _ FP.out (Nat.le_of_ble_eq_true rfl)
    have F3 : Hid (Blk v_126 b3 [.pointer (some ⟨pb, 0, none⟩)]) := by rw [hw2]; exact Blk.putB_other (by omega) _ 17 F3.out
    have F4 : Hid (Blk v_126 b4 [.int .i64 x.push, .bool x.brk, .bool x.opn]) := by rw [hw2]; exact Blk.putB_other (by omega) _ 17 F4.out
    have G6 : Hid (Blk v_126 b6 [.int .i64 ec]) := by rw [hw2]; exact Blk.putB_other (by omega) _ 17 G6.out
    have G7 : Hid (Blk v_126 b7 [.func (.func 94) #[.pointer (some ⟨pb, 0, none⟩)] #[]]) := by rw [hw2]; exact Blk.putB_other (by omega) _ 17 G7.out
    have FB : Hid (Below pb w v_126) := by rw [hw2]; exact below_putB FB.out (Nat.le_refl _) _ 17
    clear hw2
    refine hK.out _ _ (by (try dsimp only); first | exact ⟨F3.out, F4.out⟩ | go_keep) (fun hHeld => ?_)
    clear hK K
    try simp only [Act.put, List.getElem_toArray, List.getElem_cons_succ, List.getElem_cons_zero, List.setIfInBounds_toArray, List.set_cons_zero, List.set_cons_succ]
    refine wpAnyH_done (by kernel_rfl) ?_ _
    go_wp2
    refine leaves_cons (f := 70) (args := #[.pointer (some ⟨b7, 0, none⟩), .pointer (some ⟨b3, 0, none⟩), .pointer (some ⟨b6, 0, none⟩)]) (by simp) (by simp [go_sem]) ?_
    refine (step1_pushed h HO.out g r ec HM.out r1 r3 eb.1 eb.2 s i1 i2 o1 o2 pb b7 b3 b6 n7 n3 n6 _ _ FP.out G7.out F3.out G6.out).mono ?_
    rintro e u' w'' ⟨rfl, rfl, hP, hb⟩
    have FB9 : Below pb w w'' := FB.out.trans hb
    simp only [Leaves, settle]
    exact ⟨_, by simp [results, Try.results49, go_sem], rfl, hP, FB9⟩
  · have z17 := FP.out.c 17 _ rfl
    have z18 := FP.out.c 18 _ rfl
    have z19 := FP.out.c 19 _ rfl
    go_simp
    refine hK.out _ _ (by (try dsimp only); first | exact ⟨F3.out, F4.out⟩ | go_keep) (fun hHeld => ?_)
    clear hK K
    try simp only [Act.put, List.getElem_toArray, List.getElem_cons_succ, List.getElem_cons_zero, List.setIfInBounds_toArray, List.set_cons_zero, List.set_cons_succ]
    refine wpAnyH_ready (rs := [4]) (by kernel_rfl) (by simp) ?_
    refine (AllReadyH.cons rfl (fun K hK => ?_) AllReadyH.nil)
    have z0 := FP.out.c 0 _ rfl
    have z1 := FP.out.c 1 _ rfl
    have z2 := FP.out.c 2 _ rfl
    have z3 := FP.out.c 3 _ rfl
    have z4 := FP.out.c 4 _ rfl
    have z5 := FP.out.c 5 _ rfl
    have z6 := FP.out.c 6 _ rfl
    have z7 := FP.out.c 7 _ rfl
    have z8 := FP.out.c 8 _ rfl
    have z9 := FP.out.c 9 _ rfl
    have z10 := FP.out.c 10 _ rfl
    have z11 := FP.out.c 11 _ rfl
    go_simp
    refine hK.out _ _ (by (try dsimp only); first | exact ⟨F3.out, F4.out⟩ | go_keep) (fun hHeld => ?_)
    clear hK K
    try simp only [Act.put, List.getElem_toArray, List.getElem_cons_succ, List.getElem_cons_zero, List.setIfInBounds_toArray, List.set_cons_zero, List.set_cons_succ]
    refine wpAnyH_ready (rs := [12]) (by kernel_rfl) (by simp) ?_
    refine (AllReadyH.cons rfl (fun K hK => ?_) AllReadyH.nil)
    go_simp
    refine (CB _).mono ?_
    rintro e v_127 ⟨rfl, hb⟩
    have FP : Hid (Blk v_127 pb [.int .i64 h.fl, .int .i64 h.gp, .int .i64 h.ln, .int .i64 h.rf, .int .i64 h.sp, .int .i64 h.pu, .int .i64 h.br, .int .i64 h.dr, .int .i64 h.lv, .int .i64 h.dO, .int .i64 h.ld, .int .i64 h.qu, .int .i64 (massN r), .int .i64 0, .int .i64 s.i, .int .i64 s.o, .int .i64 s.l, .int .i64 c.pos, .int .i64 c.vel, .int .i64 c.door]) := FP.out.below hb FP.out.lt
    have F3 : Hid (Blk v_127 b3 [.pointer (some ⟨pb, 0, none⟩)]) := F3.out.below hb F3.out.lt
    have F4 : Hid (Blk v_127 b4 [.int .i64 x.push, .bool x.brk, .bool x.opn]) := F4.out.below hb F4.out.lt
    have G6 : Hid (Blk v_127 b6 [.int .i64 ec]) := G6.out.below hb G6.out.lt
    have G7 : Hid (Blk v_127 b7 [.func (.func 94) #[.pointer (some ⟨pb, 0, none⟩)] #[]]) := G7.out.below hb G7.out.lt
    have FB : Hid (Below pb w v_127) := FB.out.trans (hb.mono (Nat.le_of_lt (Nat.lt_of_lt_of_le lt0 FB.out.size)))
    clear hb
    try dsimp only
    refine hK.out _ _ (by (try dsimp only); first | exact ⟨F3.out, F4.out⟩ | go_keep) (fun hHeld => ?_)
    clear hK K
    try simp only [Act.put, List.getElem_toArray, List.getElem_cons_succ, List.getElem_cons_zero, List.setIfInBounds_toArray, List.set_cons_zero, List.set_cons_succ]
    refine tkz 13 rfl ?_ (hQ := fun c a w h => leaves_void step_void _ _ _ h)
    refine tkz 14 rfl ?_ (hQ := fun c a w h => leaves_void step_void _ _ _ h)
    refine tkz 15 rfl ?_ (hQ := fun c a w h => leaves_void step_void _ _ _ h)
    refine wpAnyH_ready (rs := [16]) (by kernel_rfl) (by simp) ?_
    refine (AllReadyH.cons rfl (fun K hK => ?_) AllReadyH.nil)
    have z17 := FP.out.c 17 _ rfl
    have z18 := FP.out.c 18 _ rfl
    have z19 := FP.out.c 19 _ rfl
    have zf17 := FP.out.f 17 (Nat.le_of_ble_eq_true rfl)
    have zf18 := FP.out.f 18 (Nat.le_of_ble_eq_true rfl)
    have zf19 := FP.out.f 19 (Nat.le_of_ble_eq_true rfl)
    go_simp
    obtain ⟨v_128, hw2⟩ : ∃ v_128, v_128 = putB v_127 pb 17 [.int .i64 g.pos, .int .i64 g.vel, .int .i64 g.door] := ⟨_, rfl⟩
    change K _ (putB v_127 pb 17 [.int .i64 g.pos, .int .i64 g.vel, .int .i64 g.door])
    rw [← hw2]
    clear z17 z18 z19 zf17 zf18 zf19
    have FP : Hid (Blk v_128 pb [.int .i64 h.fl, .int .i64 h.gp, .int .i64 h.ln, .int .i64 h.rf, .int .i64 h.sp, .int .i64 h.pu, .int .i64 h.br, .int .i64 h.dr, .int .i64 h.lv, .int .i64 h.dO, .int .i64 h.ld, .int .i64 h.qu, .int .i64 (massN r), .int .i64 0, .int .i64 s.i, .int .i64 s.o, .int .i64 s.l, .int .i64 g.pos, .int .i64 g.vel, .int .i64 g.door]) := by rw [hw2]; exact putB_set [.int .i64 g.pos, .int .i64 g.vel, .int .i64 g.door] _ 17 _ FP.out (Nat.le_of_ble_eq_true rfl)
    have F3 : Hid (Blk v_128 b3 [.pointer (some ⟨pb, 0, none⟩)]) := by rw [hw2]; exact Blk.putB_other (by omega) _ 17 F3.out
    have F4 : Hid (Blk v_128 b4 [.int .i64 x.push, .bool x.brk, .bool x.opn]) := by rw [hw2]; exact Blk.putB_other (by omega) _ 17 F4.out
    have G6 : Hid (Blk v_128 b6 [.int .i64 ec]) := by rw [hw2]; exact Blk.putB_other (by omega) _ 17 G6.out
    have G7 : Hid (Blk v_128 b7 [.func (.func 94) #[.pointer (some ⟨pb, 0, none⟩)] #[]]) := by rw [hw2]; exact Blk.putB_other (by omega) _ 17 G7.out
    have FB : Hid (Below pb w v_128) := by rw [hw2]; exact below_putB FB.out (Nat.le_refl _) _ 17
    clear hw2
    refine hK.out _ _ (by (try dsimp only); first | exact ⟨F3.out, F4.out⟩ | go_keep) (fun hHeld => ?_)
    clear hK K
    try simp only [Act.put, List.getElem_toArray, List.getElem_cons_succ, List.getElem_cons_zero, List.setIfInBounds_toArray, List.set_cons_zero, List.set_cons_succ]
    refine wpAnyH_done (by kernel_rfl) ?_ _
    go_wp2
    refine leaves_cons (f := 70) (args := #[.pointer (some ⟨b7, 0, none⟩), .pointer (some ⟨b3, 0, none⟩), .pointer (some ⟨b6, 0, none⟩)]) (by simp) (by simp [go_sem]) ?_
    refine (step1_pushed h HO.out g r ec HM.out r1 r3 eb.1 eb.2 s i1 i2 o1 o2 pb b7 b3 b6 n7 n3 n6 _ _ FP.out G7.out F3.out G6.out).mono ?_
    rintro e u' w'' ⟨rfl, rfl, hP, hb⟩
    have FB9 : Below pb w w'' := FB.out.trans hb
    simp only [Leaves, settle]
    exact ⟨_, by simp [results, Try.results49, go_sem], rfl, hP, FB9⟩
end Go.Proofs.Ytngdfckknkgdgaa
