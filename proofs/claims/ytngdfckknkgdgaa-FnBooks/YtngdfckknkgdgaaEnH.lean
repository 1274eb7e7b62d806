/-
  Books: a run, as the program keeps them.
-/
import Derived.Test.YtngdfckknkgdgaaEnG
import Derived.Test.YtngdfckknkgdgaaProfJ
import Derived.Deep.DeepCutAuto
namespace Go.Proofs.Ytngdfckknkgdgaa
open Go.RowKit Pl
set_option linter.unusedSimpArgs false
set_option linter.unusedVariables false

set_option maxRecDepth 20000 in
set_option maxHeartbeats 32000000 in
theorem bkRun_any (h : Hs) (c : Cs) (f r t : Int) (k : CarOk h c) (dz : c.door = 0) (f1 : -1 ≤ f) (f2 : f ≤ h.fl) (r1 : 0 ≤ r) (r2 : r ≤ h.ld) (t1 : 0 ≤ t) (t2 : t ≤ 3000) (R : Bks) (hR : Hs.bkR h f r t.toNat c Bk.no = R) (pb : Nat) (w : World) (h_FP : Blk w pb [.int .i64 h.fl, .int .i64 h.gp, .int .i64 h.ln, .int .i64 h.rf, .int .i64 h.sp, .int .i64 h.pu, .int .i64 h.br, .int .i64 h.dr, .int .i64 h.lv, .int .i64 h.dO, .int .i64 h.ld, .int .i64 h.qu, .int .i64 (massN r), .int .i64 0, .int .i64 0, .int .i64 0, .int .i64 0, .int .i64 c.pos, .int .i64 c.vel, .int .i64 c.door]) :
    Calls Try.prog 55 #[.pointer (some ⟨pb, 0, none⟩), .int .i64 f, .int .i64 t] w fun e w' => e = .returned (.tuple #[]) ∧ ∃ (g : Cs) (q : Bk), ((inB g.pos h.low h.high = true ∧ R = ⟨0, q, g⟩) ∨ (inB g.pos h.low h.high = false ∧ R = Bks.bad 3)) ∧ Blk w' pb [.int .i64 h.fl, .int .i64 h.gp, .int .i64 h.ln, .int .i64 h.rf, .int .i64 h.sp, .int .i64 h.pu, .int .i64 h.br, .int .i64 h.dr, .int .i64 h.lv, .int .i64 h.dO, .int .i64 h.ld, .int .i64 h.qu, .int .i64 (massN r), .int .i64 0, .int .i64 q.i, .int .i64 q.o, .int .i64 q.l, .int .i64 g.pos, .int .i64 g.vel, .int .i64 g.door] ∧ Below pb w w' := by
  have HO : Hid h.Ok := k.ok
  have HFz : Hid (h.fault = 0) := k.hf
  have HK0 : Hid (CarOk h c) := k
  have hin : inB c.pos h.low h.high = true := inB_yes k.p1 k.p2
  have HI0 : Hid (inB c.pos h.low h.high = true) := hin
  have HD0 : Hid (c.door = 0) := dz
  have HR : Hid (Hs.bkR h f r t.toNat c Bk.no = R) := hR
  have HP : Hid (Blk w pb [.int .i64 h.fl, .int .i64 h.gp, .int .i64 h.ln, .int .i64 h.rf, .int .i64 h.sp, .int .i64 h.pu, .int .i64 h.br, .int .i64 h.dr, .int .i64 h.lv, .int .i64 h.dO, .int .i64 h.ld, .int .i64 h.qu, .int .i64 (massN r), .int .i64 0, .int .i64 0, .int .i64 0, .int .i64 0, .int .i64 c.pos, .int .i64 c.vel, .int .i64 c.door]) := h_FP
  have lt0 := h_FP.lt
  have dr0 : -h.dr ≤ 0 := by have := k.ok.dr1; omega
  have dr1 : 0 ≤ h.dr := k.ok.dr1
  clear k dz hR h_FP hin
  go_enter Try.func55, Try.ntmps55
  go_wp2_with fail
  go_loopw [7] (fun nn wr => ∃ (n : Int) (g : Cs) (q : Bk), nn = .int .i64 n ∧ 0 ≤ n ∧ n ≤ t ∧ (0 ≤ q.i ∧ q.i ≤ n * 1000000000000) ∧ (0 ≤ q.o ∧ q.o ≤ n * 1000000000000) ∧ (0 ≤ q.l ∧ q.l ≤ n * 1000000000000) ∧ Nr h g ∧ ((CarOk h g ∧ g.door = 0 ∧ inB g.pos h.low h.high = true ∧ Hs.bkR h f r (t - n).toNat g q = R) ∨ (inB g.pos h.low h.high = false ∧ R = Bks.bad 3)) ∧ Blk wr pb [.int .i64 h.fl, .int .i64 h.gp, .int .i64 h.ln, .int .i64 h.rf, .int .i64 h.sp, .int .i64 h.pu, .int .i64 h.br, .int .i64 h.dr, .int .i64 h.lv, .int .i64 h.dO, .int .i64 h.ld, .int .i64 h.qu, .int .i64 (massN r), .int .i64 0, .int .i64 q.i, .int .i64 q.o, .int .i64 q.l, .int .i64 g.pos, .int .i64 g.vel, .int .i64 g.door] ∧ Below pb w wr) (fun nn _ => (t - intOf nn).toNat)
  case atStart => exact ⟨0, c, Bk.no, rfl, Int.le_refl _, t1, ⟨Int.le_refl _, Int.le_refl _⟩, ⟨Int.le_refl _, Int.le_refl _⟩, ⟨Int.le_refl _, Int.le_refl _⟩, nr_of HK0.out, Or.inl ⟨HK0.out, HD0.out, HI0.out, by rw [Int.sub_zero]; exact HR.out⟩, HP.out, Below.refl _ _⟩
  case round =>
    obtain ⟨n, g, q, rfl, n1, n2, qi, qo, ql, hn, hst, hP, hB⟩ := hrel
    have FP : Hid (Blk wr pb [.int .i64 h.fl, .int .i64 h.gp, .int .i64 h.ln, .int .i64 h.rf, .int .i64 h.sp, .int .i64 h.pu, .int .i64 h.br, .int .i64 h.dr, .int .i64 h.lv, .int .i64 h.dO, .int .i64 h.ld, .int .i64 h.qu, .int .i64 (massN r), .int .i64 0, .int .i64 q.i, .int .i64 q.o, .int .i64 q.l, .int .i64 g.pos, .int .i64 g.vel, .int .i64 g.door]) := hP
    have FB : Hid (Below pb w wr) := hB
    have HN : Hid (Nr h g) := hn
    have gp := hn.pos HO.out
    have gv1 := hn.v1
    have gv2 := hn.v2
    have ltw : pb < wr.heap.size := hP.lt
    clear hP hB hn HP HK0 HI0 HD0 HR
    by_cases hlt : n < t
    · cases hr : ((g.vel == 0) && Hs.near h g f) with
      | true =>
        have HE : Hid ((inB g.pos h.low h.high = true ∧ R = ⟨0, q, g⟩) ∨ (inB g.pos h.low h.high = false ∧ R = Bks.bad 3)) := by
          rcases hst with ⟨_, _, hi, hq⟩ | hbad
          · refine Or.inl ⟨hi, ?_⟩
            rw [← hq]
            exact bkR_stop hr
          · exact Or.inr hbad
        clear hst
        have CA : ∀ W, Calls Try.prog 76 #[.agg #[.int .i64 h.fl, .int .i64 h.gp, .int .i64 h.ln, .int .i64 h.rf, .int .i64 h.sp, .int .i64 h.pu, .int .i64 h.br, .int .i64 h.dr, .int .i64 h.lv, .int .i64 h.dO, .int .i64 h.ld, .int .i64 h.qu], .agg #[.int .i64 g.pos, .int .i64 g.vel, .int .i64 g.door], .int .i64 f] W fun e w' => e = .returned (.bool true) ∧ Below W.heap.size W w' := fun W => by have q := isAtRest_any h HO.out g f f1 f2 (by omega) (by omega) W; rw [hr] at q; exact q
        clear hr
        go_upto_region 2 with fail
        have FP : Hid (Blk wr.drew pb [.int .i64 h.fl, .int .i64 h.gp, .int .i64 h.ln, .int .i64 h.rf, .int .i64 h.sp, .int .i64 h.pu, .int .i64 h.br, .int .i64 h.dr, .int .i64 h.lv, .int .i64 h.dO, .int .i64 h.ld, .int .i64 h.qu, .int .i64 (massN r), .int .i64 0, .int .i64 q.i, .int .i64 q.o, .int .i64 q.l, .int .i64 g.pos, .int .i64 g.vel, .int .i64 g.door]) := FP.out.below (Below.refl _ _).drew FP.out.lt
        have FB : Hid (Below pb w wr.drew) := FB.out.drew
        refine wp_region_held_drew (S := (fun w'' => Blk w'' pb ([.int .i64 h.fl, .int .i64 h.gp, .int .i64 h.ln, .int .i64 h.rf, .int .i64 h.sp, .int .i64 h.pu, .int .i64 h.br, .int .i64 h.dr, .int .i64 h.lv, .int .i64 h.dO, .int .i64 h.ld, .int .i64 h.qu, .int .i64 (massN r), .int .i64 0, .int .i64 q.i, .int .i64 q.o, .int .i64 q.l, .int .i64 g.pos, .int .i64 g.vel, .int .i64 g.door]))) (by kernel_rfl) (by (try dsimp only); first | exact FP.out | go_keep) (fun hHeld => ?_)
        obtain ⟨v_1, hw1⟩ : ∃ v_1, v_1 = wr.drew := ⟨_, rfl⟩
        have FP : Hid (Blk v_1 pb [.int .i64 h.fl, .int .i64 h.gp, .int .i64 h.ln, .int .i64 h.rf, .int .i64 h.sp, .int .i64 h.pu, .int .i64 h.br, .int .i64 h.dr, .int .i64 h.lv, .int .i64 h.dO, .int .i64 h.ld, .int .i64 h.qu, .int .i64 (massN r), .int .i64 0, .int .i64 q.i, .int .i64 q.o, .int .i64 q.l, .int .i64 g.pos, .int .i64 g.vel, .int .i64 g.door]) := by rw [hw1]; exact FP.out
        have FB : Hid (Below pb w v_1) := by rw [hw1]; exact FB.out
        rw [← hw1] at hHeld ⊢
        clear hw1
        refine tkz 0 rfl ?_
        refine tkz 1 rfl ?_
        refine tkz 2 rfl ?_
        refine tkz 3 rfl ?_ (hy := Or.inl ⟨by kernel_rfl, fun wx hSw => exec_load_mid 27 _ 0 [.int .i64 h.fl, .int .i64 h.gp, .int .i64 h.ln, .int .i64 h.rf, .int .i64 h.sp, .int .i64 h.pu, .int .i64 h.br, .int .i64 h.dr, .int .i64 h.lv, .int .i64 h.dO, .int .i64 h.ld, .int .i64 h.qu] Try.underlying27 (by kernel_rfl) rfl rfl rfl hSw⟩)
        refine tkz 4 rfl ?_
        refine tkz 5 rfl ?_
        refine tkz 6 rfl ?_
        refine tkz 7 rfl ?_
        refine tkz 8 rfl ?_ (hy := Or.inl ⟨by kernel_rfl, fun wx hSw => exec_load_mid 34 _ 17 [.int .i64 g.pos, .int .i64 g.vel, .int .i64 g.door] Try.underlying34 (by kernel_rfl) rfl rfl rfl hSw⟩)
        refine tkz 9 rfl ?_
        refine wpAnyH_ready (rs := [10]) (by kernel_rfl) (by simp) ?_
        refine (AllReadyH.cons rfl (fun K hK => ?_) AllReadyH.nil)
        go_simp
        refine (CA _).mono ?_
        rintro e v_2 ⟨rfl, hb⟩
        have FP : Hid (Blk v_2 pb [.int .i64 h.fl, .int .i64 h.gp, .int .i64 h.ln, .int .i64 h.rf, .int .i64 h.sp, .int .i64 h.pu, .int .i64 h.br, .int .i64 h.dr, .int .i64 h.lv, .int .i64 h.dO, .int .i64 h.ld, .int .i64 h.qu, .int .i64 (massN r), .int .i64 0, .int .i64 q.i, .int .i64 q.o, .int .i64 q.l, .int .i64 g.pos, .int .i64 g.vel, .int .i64 g.door]) := FP.out.below hb FP.out.lt
        have FB : Hid (Below pb w v_2) := FB.out.trans (hb.mono (Nat.le_of_lt (Nat.lt_of_lt_of_le lt0 FB.out.size)))
        clear hb
        try dsimp only
        refine hK.out _ _ (by (try dsimp only); first | exact FP.out | go_keep) (fun hHeld => ?_)
        clear hK K
        try simp only [Act.put, List.getElem_toArray, List.getElem_cons_succ, List.getElem_cons_zero, List.setIfInBounds_toArray, List.set_cons_zero, List.set_cons_succ]
        refine tkz 11 rfl ?_
        refine tbz 12 rfl ?_
        refine tbz 13 rfl ?_
        refine tbz 14 rfl ?_
        refine tbz 15 rfl ?_
        refine tbz 16 rfl ?_
        refine tbz 17 rfl ?_
        refine tbz 18 rfl ?_
        refine tbz 19 rfl ?_
        refine tbz 20 rfl ?_
        refine tbz 21 rfl ?_
        refine tbz 22 rfl ?_
        refine tkz 23 rfl ?_
        refine wpAnyH_done (by kernel_rfl) ?_ _
        go_wp2
        exact bodyPost_ret (v := .tuple #[]) (by simp [results, Try.results55, go_sem]) rfl ⟨rfl, g, q, HE.out, FP.out, FB.out⟩
      | false =>
        have CA : ∀ W, Calls Try.prog 76 #[.agg #[.int .i64 h.fl, .int .i64 h.gp, .int .i64 h.ln, .int .i64 h.rf, .int .i64 h.sp, .int .i64 h.pu, .int .i64 h.br, .int .i64 h.dr, .int .i64 h.lv, .int .i64 h.dO, .int .i64 h.ld, .int .i64 h.qu], .agg #[.int .i64 g.pos, .int .i64 g.vel, .int .i64 g.door], .int .i64 f] W fun e w' => e = .returned (.bool false) ∧ Below W.heap.size W w' := fun W => by have q := isAtRest_any h HO.out g f f1 f2 (by omega) (by omega) W; rw [hr] at q; exact q
        rcases hst with ⟨hok, hdz, hi, hq⟩ | ⟨hi, hbad⟩
        · have CS : ∀ W, Calls Try.prog 72 #[.agg #[.int .i64 h.fl, .int .i64 h.gp, .int .i64 h.ln, .int .i64 h.rf, .int .i64 h.sp, .int .i64 h.pu, .int .i64 h.br, .int .i64 h.dr, .int .i64 h.lv, .int .i64 h.dO, .int .i64 h.ld, .int .i64 h.qu], .agg #[.int .i64 g.pos, .int .i64 g.vel, .int .i64 g.door]] W fun e w' => e = .returned (.bool true) ∧ Below W.heap.size W w' := fun W => by have q := isInShaft_any h HO.out g W; rw [hi] at q; exact q
          have hrb : Hs.reachB h g f = false := hr
          obtain ⟨x, hx⟩ : ∃ x, Hs.forC h g f = x := ⟨_, rfl⟩
          have fp := forC_push HO.out g f
          rw [hx] at fp
          obtain ⟨g2, hg2⟩ : ∃ g2, stepC h g x 0 = g2 := ⟨_, rfl⟩
          obtain ⟨q2, hq2⟩ : ∃ q2, q.add (Hs.bkS h g x 0 r) = q2 := ⟨_, rfl⟩
          have sn := step_near (x := x) (d := 0) hok
          rw [hg2] at sn
          have bb := bkS_bd (x := x) (d := 0) hok r1 r2
          have CX : ∀ W, Calls Try.prog 77 #[.agg #[.int .i64 h.fl, .int .i64 h.gp, .int .i64 h.ln, .int .i64 h.rf, .int .i64 h.sp, .int .i64 h.pu, .int .i64 h.br, .int .i64 h.dr, .int .i64 h.lv, .int .i64 h.dO, .int .i64 h.ld, .int .i64 h.qu], .agg #[.int .i64 g.pos, .int .i64 g.vel, .int .i64 g.door], .int .i64 f] W (isCmd W x) := fun W => by have z := commandTo_any h HO.out g f f1 f2 (by omega) (by omega) gv1 gv2 W; rw [hx] at z; exact z
          have CT : ∀ W, Blk W pb [.int .i64 h.fl, .int .i64 h.gp, .int .i64 h.ln, .int .i64 h.rf, .int .i64 h.sp, .int .i64 h.pu, .int .i64 h.br, .int .i64 h.dr, .int .i64 h.lv, .int .i64 h.dO, .int .i64 h.ld, .int .i64 h.qu, .int .i64 (massN r), .int .i64 0, .int .i64 q.i, .int .i64 q.o, .int .i64 q.l, .int .i64 g.pos, .int .i64 g.vel, .int .i64 g.door] → Calls Try.prog 49 #[.pointer (some ⟨pb, 0, none⟩), .agg #[.int .i64 x.push, .bool x.brk, .bool x.opn], .int .i64 0] W fun e w' => e = .returned (.tuple #[]) ∧ Blk w' pb [.int .i64 h.fl, .int .i64 h.gp, .int .i64 h.ln, .int .i64 h.rf, .int .i64 h.sp, .int .i64 h.pu, .int .i64 h.br, .int .i64 h.dr, .int .i64 h.lv, .int .i64 h.dO, .int .i64 h.ld, .int .i64 h.qu, .int .i64 (massN r), .int .i64 0, .int .i64 q2.i, .int .i64 q2.o, .int .i64 q2.l, .int .i64 g2.pos, .int .i64 g2.vel, .int .i64 g2.door] ∧ Below pb W w' := fun W hW => bkStep_any h g x 0 r hok fp.1 fp.2 dr0 dr1 r1 r2 q qi.1 (by omega) qo.1 (by omega) ql.1 (by omega) g2 hg2 q2 hq2 pb W hW
          have HQ : Hid ((0 ≤ q2.i ∧ q2.i ≤ (n + 1) * 1000000000000) ∧ (0 ≤ q2.o ∧ q2.o ≤ (n + 1) * 1000000000000) ∧ (0 ≤ q2.l ∧ q2.l ≤ (n + 1) * 1000000000000)) := by
            have e1 : q2.i = q.i + (Hs.bkS h g x 0 r).i := by rw [← hq2]; rfl
            have e2 : q2.o = q.o + (Hs.bkS h g x 0 r).o := by rw [← hq2]; rfl
            have e3 : q2.l = q.l + (Hs.bkS h g x 0 r).l := by rw [← hq2]; rfl
            exact ⟨by omega, by omega, by omega⟩
          have HS : Hid ((CarOk h g2 ∧ g2.door = 0 ∧ inB g2.pos h.low h.high = true ∧ Hs.bkR h f r (t - (n + 1)).toNat g2 q2 = R) ∨ (inB g2.pos h.low h.high = false ∧ R = Bks.bad 3)) := by
            have et : (t - n).toNat = (t - (n + 1)).toNat + 1 := by omega
            have d2 := step_door (h := h) (f := f) hdz
            rw [hx, hg2] at d2
            rw [et] at hq
            cases hi2 : inB g2.pos h.low h.high with
            | true =>
              have c0 := sn.2.1.2 hi2
              refine Or.inl ⟨Hs.car_zero (by rw [Hs.car_ok HFz.out]; exact c0), d2, rfl, ?_⟩
              rw [← hq, bkR_go hrb (by rw [hx, hg2]; exact c0), hx, hg2, hq2]
            | false =>
              refine Or.inr ⟨rfl, ?_⟩
              rw [← hq]
              exact bkR_bad hrb (by rw [hx, hg2]; exact sn.2.2 hi2)
          have HN2 : Hid (Nr h g2) := sn.1
          clear hr hrb hi hq hok hdz hx fp hg2 hq2 sn bb
          go_upto_region 2 with fail
          have FP : Hid (Blk wr.drew pb [.int .i64 h.fl, .int .i64 h.gp, .int .i64 h.ln, .int .i64 h.rf, .int .i64 h.sp, .int .i64 h.pu, .int .i64 h.br, .int .i64 h.dr, .int .i64 h.lv, .int .i64 h.dO, .int .i64 h.ld, .int .i64 h.qu, .int .i64 (massN r), .int .i64 0, .int .i64 q.i, .int .i64 q.o, .int .i64 q.l, .int .i64 g.pos, .int .i64 g.vel, .int .i64 g.door]) := FP.out.below (Below.refl _ _).drew FP.out.lt
          have FB : Hid (Below pb w wr.drew) := FB.out.drew
          refine wp_region_held_drew (S := (fun w'' => Blk w'' pb ([.int .i64 h.fl, .int .i64 h.gp, .int .i64 h.ln, .int .i64 h.rf, .int .i64 h.sp, .int .i64 h.pu, .int .i64 h.br, .int .i64 h.dr, .int .i64 h.lv, .int .i64 h.dO, .int .i64 h.ld, .int .i64 h.qu, .int .i64 (massN r), .int .i64 0, .int .i64 q.i, .int .i64 q.o, .int .i64 q.l, .int .i64 g.pos, .int .i64 g.vel, .int .i64 g.door]))) (by kernel_rfl) (by (try dsimp only); first | exact FP.out | go_keep) (fun hHeld => ?_)
          obtain ⟨v_3, hw1⟩ : ∃ v_3, v_3 = wr.drew := ⟨_, rfl⟩
          have FP : Hid (Blk v_3 pb [.int .i64 h.fl, .int .i64 h.gp, .int .i64 h.ln, .int .i64 h.rf, .int .i64 h.sp, .int .i64 h.pu, .int .i64 h.br, .int .i64 h.dr, .int .i64 h.lv, .int .i64 h.dO, .int .i64 h.ld, .int .i64 h.qu, .int .i64 (massN r), .int .i64 0, .int .i64 q.i, .int .i64 q.o, .int .i64 q.l, .int .i64 g.pos, .int .i64 g.vel, .int .i64 g.door]) := by rw [hw1]; exact FP.out
          have FB : Hid (Below pb w v_3) := by rw [hw1]; exact FB.out
          rw [← hw1] at hHeld ⊢
          clear hw1
          refine tkz 0 rfl ?_
          refine tkz 1 rfl ?_
          refine tkz 2 rfl ?_
          refine tkz 3 rfl ?_ (hy := Or.inl ⟨by kernel_rfl, fun wx hSw => exec_load_mid 27 _ 0 [.int .i64 h.fl, .int .i64 h.gp, .int .i64 h.ln, .int .i64 h.rf, .int .i64 h.sp, .int .i64 h.pu, .int .i64 h.br, .int .i64 h.dr, .int .i64 h.lv, .int .i64 h.dO, .int .i64 h.ld, .int .i64 h.qu] Try.underlying27 (by kernel_rfl) rfl rfl rfl hSw⟩)
          refine tkz 4 rfl ?_
          refine tkz 5 rfl ?_
          refine tkz 6 rfl ?_
          refine tkz 7 rfl ?_
          refine tkz 8 rfl ?_ (hy := Or.inl ⟨by kernel_rfl, fun wx hSw => exec_load_mid 34 _ 17 [.int .i64 g.pos, .int .i64 g.vel, .int .i64 g.door] Try.underlying34 (by kernel_rfl) rfl rfl rfl hSw⟩)
          refine tkz 9 rfl ?_
          refine wpAnyH_ready (rs := [10]) (by kernel_rfl) (by simp) ?_
          refine (AllReadyH.cons rfl (fun K hK => ?_) AllReadyH.nil)
          go_simp
          refine (CA _).mono ?_
          rintro e v_4 ⟨rfl, hb⟩
          have FP : Hid (Blk v_4 pb [.int .i64 h.fl, .int .i64 h.gp, .int .i64 h.ln, .int .i64 h.rf, .int .i64 h.sp, .int .i64 h.pu, .int .i64 h.br, .int .i64 h.dr, .int .i64 h.lv, .int .i64 h.dO, .int .i64 h.ld, .int .i64 h.qu, .int .i64 (massN r), .int .i64 0, .int .i64 q.i, .int .i64 q.o, .int .i64 q.l, .int .i64 g.pos, .int .i64 g.vel, .int .i64 g.door]) := FP.out.below hb FP.out.lt
          have FB : Hid (Below pb w v_4) := FB.out.trans (hb.mono (Nat.le_of_lt (Nat.lt_of_lt_of_le lt0 FB.out.size)))
          clear hb
          try dsimp only
          refine hK.out _ _ (by (try dsimp only); first | exact FP.out | go_keep) (fun hHeld => ?_)
          clear hK K
          try simp only [Act.put, List.getElem_toArray, List.getElem_cons_succ, List.getElem_cons_zero, List.setIfInBounds_toArray, List.set_cons_zero, List.set_cons_succ]
          refine tkz 11 rfl ?_
          refine tkz 12 rfl ?_
          refine tkz 13 rfl ?_
          refine tkz 14 rfl ?_
          refine tkz 15 rfl ?_ (hy := Or.inl ⟨by kernel_rfl, fun wx hSw => exec_load_mid 27 _ 0 [.int .i64 h.fl, .int .i64 h.gp, .int .i64 h.ln, .int .i64 h.rf, .int .i64 h.sp, .int .i64 h.pu, .int .i64 h.br, .int .i64 h.dr, .int .i64 h.lv, .int .i64 h.dO, .int .i64 h.ld, .int .i64 h.qu] Try.underlying27 (by kernel_rfl) rfl rfl rfl hSw⟩)
          refine tkz 16 rfl ?_
          refine tkz 17 rfl ?_
          refine tkz 18 rfl ?_
          refine tkz 19 rfl ?_
          refine tkz 20 rfl ?_ (hy := Or.inl ⟨by kernel_rfl, fun wx hSw => exec_load_mid 34 _ 17 [.int .i64 g.pos, .int .i64 g.vel, .int .i64 g.door] Try.underlying34 (by kernel_rfl) rfl rfl rfl hSw⟩)
          refine wpAnyH_ready (rs := [21]) (by kernel_rfl) (by simp) ?_
          refine (AllReadyH.cons rfl (fun K hK => ?_) AllReadyH.nil)
          go_simp
          refine (CS _).mono ?_
          rintro e v_5 ⟨rfl, hb⟩
          have FP : Hid (Blk v_5 pb [.int .i64 h.fl, .int .i64 h.gp, .int .i64 h.ln, .int .i64 h.rf, .int .i64 h.sp, .int .i64 h.pu, .int .i64 h.br, .int .i64 h.dr, .int .i64 h.lv, .int .i64 h.dO, .int .i64 h.ld, .int .i64 h.qu, .int .i64 (massN r), .int .i64 0, .int .i64 q.i, .int .i64 q.o, .int .i64 q.l, .int .i64 g.pos, .int .i64 g.vel, .int .i64 g.door]) := FP.out.below hb FP.out.lt
          have FB : Hid (Below pb w v_5) := FB.out.trans (hb.mono (Nat.le_of_lt (Nat.lt_of_lt_of_le lt0 FB.out.size)))
          clear hb
          try dsimp only
          refine hK.out _ _ (by (try dsimp only); first | exact FP.out | go_keep) (fun hHeld => ?_)
          clear hK K
          try simp only [Act.put, List.getElem_toArray, List.getElem_cons_succ, List.getElem_cons_zero, List.setIfInBounds_toArray, List.set_cons_zero, List.set_cons_succ]
          refine tkz 22 rfl ?_
          refine tkz 23 rfl ?_
          refine wpAnyH_done (by kernel_rfl) ?_ _
          obtain ⟨wz, hwz⟩ : ∃ q, q = v_5 := ⟨_, rfl⟩
          rw [← hwz] at FP FB ⊢
          clear hwz
          go_upto_region 3 with fail
          have FP : Hid (Blk wz.drew pb [.int .i64 h.fl, .int .i64 h.gp, .int .i64 h.ln, .int .i64 h.rf, .int .i64 h.sp, .int .i64 h.pu, .int .i64 h.br, .int .i64 h.dr, .int .i64 h.lv, .int .i64 h.dO, .int .i64 h.ld, .int .i64 h.qu, .int .i64 (massN r), .int .i64 0, .int .i64 q.i, .int .i64 q.o, .int .i64 q.l, .int .i64 g.pos, .int .i64 g.vel, .int .i64 g.door]) := FP.out.below (Below.refl _ _).drew FP.out.lt
          have FB : Hid (Below pb w wz.drew) := FB.out.drew
          refine wp_region_held_drew (S := (fun _ => True)) (by kernel_rfl) (by (try dsimp only); all_goals trivial) (fun hHeld => ?_)
          obtain ⟨v_6, hw1⟩ : ∃ v_6, v_6 = wz.drew := ⟨_, rfl⟩
          have FP : Hid (Blk v_6 pb [.int .i64 h.fl, .int .i64 h.gp, .int .i64 h.ln, .int .i64 h.rf, .int .i64 h.sp, .int .i64 h.pu, .int .i64 h.br, .int .i64 h.dr, .int .i64 h.lv, .int .i64 h.dO, .int .i64 h.ld, .int .i64 h.qu, .int .i64 (massN r), .int .i64 0, .int .i64 q.i, .int .i64 q.o, .int .i64 q.l, .int .i64 g.pos, .int .i64 g.vel, .int .i64 g.door]) := by rw [hw1]; exact FP.out
          have FB : Hid (Below pb w v_6) := by rw [hw1]; exact FB.out
          rw [← hw1]
          clear hw1
          refine tkz 0 rfl ?_
          refine tkz 1 rfl ?_
          refine tkz 2 rfl ?_
          refine tkz 3 rfl ?_
          refine tkz 5 rfl ?_
          refine tkz 6 rfl ?_
          refine tkz 7 rfl ?_
          refine tkz 8 rfl ?_
          refine tkz 10 rfl ?_
          refine wpAnyH_ready (rs := [4, 9]) (by kernel_rfl) (by simp) ?_
          refine (AllReadyH.cons rfl (fun K hK => ?_) (AllReadyH.cons rfl (fun K hK => ?_) AllReadyH.nil))
          · have z0 := FP.out.c 0 _ rfl
            have z1 := FP.out.c 1 _ rfl
            have z2 := FP.out.c 2 _ rfl
            have z3 := FP.out.c 3 _ rfl
            have z4 := FP.out.c 4 _ rfl
            have z5 := FP.out.c 5 _ rfl
            have z6 := FP.out.c 6 _ rfl
            have z7 := FP.out.c 7 _ rfl
            have z8 := FP.out.c 8 _ rfl
            have z9 := FP.out.c 9 _ rfl
            have z10 := FP.out.c 10 _ rfl
            have z11 := FP.out.c 11 _ rfl
            go_simp
            refine hK.out _ _ (by (try dsimp only); all_goals trivial) (fun hHeld => ?_)
            clear hK K
            try simp only [Act.put, List.getElem_toArray, List.getElem_cons_succ, List.getElem_cons_zero, List.setIfInBounds_toArray, List.set_cons_zero, List.set_cons_succ]
            refine wpAnyH_ready (rs := [9]) (by kernel_rfl) (by simp) ?_
            refine (AllReadyH.cons rfl (fun K hK => ?_) AllReadyH.nil)
            have z17 := FP.out.c 17 _ rfl
            have z18 := FP.out.c 18 _ rfl
            have z19 := FP.out.c 19 _ rfl
            go_simp
            refine hK.out _ _ (by (try dsimp only); all_goals trivial) (fun hHeld => ?_)
            clear hK K
            try simp only [Act.put, List.getElem_toArray, List.getElem_cons_succ, List.getElem_cons_zero, List.setIfInBounds_toArray, List.set_cons_zero, List.set_cons_succ]
            refine wpAnyH_ready (rs := [11]) (by kernel_rfl) (by simp) ?_
            refine (AllReadyH.cons rfl (fun K hK => ?_) AllReadyH.nil)
            go_simp
            refine (CX _).mono ?_
            rintro e v_7 ⟨rfl, hb⟩
            have FP : Hid (Blk v_7 pb [.int .i64 h.fl, .int .i64 h.gp, .int .i64 h.ln, .int .i64 h.rf, .int .i64 h.sp, .int .i64 h.pu, .int .i64 h.br, .int .i64 h.dr, .int .i64 h.lv, .int .i64 h.dO, .int .i64 h.ld, .int .i64 h.qu, .int .i64 (massN r), .int .i64 0, .int .i64 q.i, .int .i64 q.o, .int .i64 q.l, .int .i64 g.pos, .int .i64 g.vel, .int .i64 g.door]) := FP.out.below hb FP.out.lt
            have FB : Hid (Below pb w v_7) := FB.out.trans (hb.mono (Nat.le_of_lt (Nat.lt_of_lt_of_le lt0 FB.out.size)))
            clear hb
            try dsimp only
            refine hK.out _ _ (by (try dsimp only); all_goals trivial) (fun hHeld => ?_)
            clear hK K
            try simp only [Act.put, List.getElem_toArray, List.getElem_cons_succ, List.getElem_cons_zero, List.setIfInBounds_toArray, List.set_cons_zero, List.set_cons_succ]
            refine wpAnyH_ready (rs := [12]) (by kernel_rfl) (by simp) ?_
            refine (AllReadyH.cons rfl (fun K hK => ?_) AllReadyH.nil)
            go_simp
            refine (CT _ FP.out).mono ?_
            rintro e v_8 ⟨rfl, hP, hb⟩
            have FP : Hid (Blk v_8 pb [.int .i64 h.fl, .int .i64 h.gp, .int .i64 h.ln, .int .i64 h.rf, .int .i64 h.sp, .int .i64 h.pu, .int .i64 h.br, .int .i64 h.dr, .int .i64 h.lv, .int .i64 h.dO, .int .i64 h.ld, .int .i64 h.qu, .int .i64 (massN r), .int .i64 0, .int .i64 q2.i, .int .i64 q2.o, .int .i64 q2.l, .int .i64 g2.pos, .int .i64 g2.vel, .int .i64 g2.door]) := hP
            have FB : Hid (Below pb w v_8) := FB.out.trans hb
            clear hP hb
            try dsimp only
            refine hK.out _ _ (by (try dsimp only); all_goals trivial) (fun hHeld => ?_)
            clear hK K
            try simp only [Act.put, List.getElem_toArray, List.getElem_cons_succ, List.getElem_cons_zero, List.setIfInBounds_toArray, List.set_cons_zero, List.set_cons_succ]
            refine wpAnyH_done (by kernel_rfl) ?_ _
            go_wp2_with fail
            go_roundw
            case rel => exact ⟨n + 1, g2, q2, rfl, by omega, by omega, HQ.out.1, HQ.out.2.1, HQ.out.2.2, HN2.out, HS.out, FP.out, FB.out⟩
            case measure => simp [intOf]; omega
          · have z17 := FP.out.c 17 _ rfl
            have z18 := FP.out.c 18 _ rfl
            have z19 := FP.out.c 19 _ rfl
            go_simp
            refine hK.out _ _ (by (try dsimp only); all_goals trivial) (fun hHeld => ?_)
            clear hK K
            try simp only [Act.put, List.getElem_toArray, List.getElem_cons_succ, List.getElem_cons_zero, List.setIfInBounds_toArray, List.set_cons_zero, List.set_cons_succ]
            refine wpAnyH_ready (rs := [4]) (by kernel_rfl) (by simp) ?_
            refine (AllReadyH.cons rfl (fun K hK => ?_) AllReadyH.nil)
            have z0 := FP.out.c 0 _ rfl
            have z1 := FP.out.c 1 _ rfl
            have z2 := FP.out.c 2 _ rfl
            have z3 := FP.out.c 3 _ rfl
            have z4 := FP.out.c 4 _ rfl
            have z5 := FP.out.c 5 _ rfl
            have z6 := FP.out.c 6 _ rfl
            have z7 := FP.out.c 7 _ rfl
            have z8 := FP.out.c 8 _ rfl
            have z9 := FP.out.c 9 _ rfl
            have z10 := FP.out.c 10 _ rfl
            have z11 := FP.out.c 11 _ rfl
            go_simp
            refine hK.out _ _ (by (try dsimp only); all_goals trivial) (fun hHeld => ?_)
            clear hK K
            try simp only [Act.put, List.getElem_toArray, List.getElem_cons_succ, List.getElem_cons_zero, List.setIfInBounds_toArray, List.set_cons_zero, List.set_cons_succ]
            refine wpAnyH_ready (rs := [11]) (by kernel_rfl) (by simp) ?_
            refine (AllReadyH.cons rfl (fun K hK => ?_) AllReadyH.nil)
            go_simp
            refine (CX _).mono ?_
            rintro e v_9 ⟨rfl, hb⟩
            have FP : Hid (Blk v_9 pb [.int .i64 h.fl, .int .i64 h.gp, .int .i64 h.ln, .int .i64 h.rf, .int .i64 h.sp, .int .i64 h.pu, .int .i64 h.br, .int .i64 h.dr, .int .i64 h.lv, .int .i64 h.dO, .int .i64 h.ld, .int .i64 h.qu, .int .i64 (massN r), .int .i64 0, .int .i64 q.i, .int .i64 q.o, .int .i64 q.l, .int .i64 g.pos, .int .i64 g.vel, .int .i64 g.door]) := FP.out.below hb FP.out.lt
            have FB : Hid (Below pb w v_9) := FB.out.trans (hb.mono (Nat.le_of_lt (Nat.lt_of_lt_of_le lt0 FB.out.size)))
            clear hb
            try dsimp only
            refine hK.out _ _ (by (try dsimp only); all_goals trivial) (fun hHeld => ?_)
            clear hK K
            try simp only [Act.put, List.getElem_toArray, List.getElem_cons_succ, List.getElem_cons_zero, List.setIfInBounds_toArray, List.set_cons_zero, List.set_cons_succ]
            refine wpAnyH_ready (rs := [12]) (by kernel_rfl) (by simp) ?_
            refine (AllReadyH.cons rfl (fun K hK => ?_) AllReadyH.nil)
            go_simp
            refine (CT _ FP.out).mono ?_
            rintro e v_10 ⟨rfl, hP, hb⟩
            have FP : Hid (Blk v_10 pb [.int .i64 h.fl, .int .i64 h.gp, .int .i64 h.ln, .int .i64 h.rf, .int .i64 h.sp, .int .i64 h.pu, .int .i64 h.br, .int .i64 h.dr, .int .i64 h.lv, .int .i64 h.dO, .int .i64 h.ld, .int .i64 h.qu, .int .i64 (massN r), .int .i64 0, .int .i64 q2.i, .int .i64 q2.o, .int .i64 q2.l, .int .i64 g2.pos, .int .i64 g2.vel, .int .i64 g2.door]) := hP
            have FB : Hid (Below pb w v_10) := FB.out.trans hb
            clear hP hb
            try dsimp only
            refine hK.out _ _ (by (try dsimp only); all_goals trivial) (fun hHeld => ?_)
            clear hK K
            try simp only [Act.put, List.getElem_toArray, List.getElem_cons_succ, List.getElem_cons_zero, List.setIfInBounds_toArray, List.set_cons_zero, List.set_cons_succ]
            refine wpAnyH_done (by kernel_rfl) ?_ _
            go_wp2_with fail
            go_roundw
            case rel => exact ⟨n + 1, g2, q2, rfl, by omega, by omega, HQ.out.1, HQ.out.2.1, HQ.out.2.2, HN2.out, HS.out, FP.out, FB.out⟩
            case measure => simp [intOf]; omega
        · have HE : Hid ((inB g.pos h.low h.high = true ∧ R = ⟨0, q, g⟩) ∨ (inB g.pos h.low h.high = false ∧ R = Bks.bad 3)) := Or.inr ⟨hi, hbad⟩
          have CS : ∀ W, Calls Try.prog 72 #[.agg #[.int .i64 h.fl, .int .i64 h.gp, .int .i64 h.ln, .int .i64 h.rf, .int .i64 h.sp, .int .i64 h.pu, .int .i64 h.br, .int .i64 h.dr, .int .i64 h.lv, .int .i64 h.dO, .int .i64 h.ld, .int .i64 h.qu], .agg #[.int .i64 g.pos, .int .i64 g.vel, .int .i64 g.door]] W fun e w' => e = .returned (.bool false) ∧ Below W.heap.size W w' := fun W => by have q := isInShaft_any h HO.out g W; rw [hi] at q; exact q
          clear hr hi hbad
          go_upto_region 2 with fail
          have FP : Hid (Blk wr.drew pb [.int .i64 h.fl, .int .i64 h.gp, .int .i64 h.ln, .int .i64 h.rf, .int .i64 h.sp, .int .i64 h.pu, .int .i64 h.br, .int .i64 h.dr, .int .i64 h.lv, .int .i64 h.dO, .int .i64 h.ld, .int .i64 h.qu, .int .i64 (massN r), .int .i64 0, .int .i64 q.i, .int .i64 q.o, .int .i64 q.l, .int .i64 g.pos, .int .i64 g.vel, .int .i64 g.door]) := FP.out.below (Below.refl _ _).drew FP.out.lt
          have FB : Hid (Below pb w wr.drew) := FB.out.drew
          refine wp_region_held_drew (S := (fun w'' => Blk w'' pb ([.int .i64 h.fl, .int .i64 h.gp, .int .i64 h.ln, .int .i64 h.rf, .int .i64 h.sp, .int .i64 h.pu, .int .i64 h.br, .int .i64 h.dr, .int .i64 h.lv, .int .i64 h.dO, .int .i64 h.ld, .int .i64 h.qu, .int .i64 (massN r), .int .i64 0, .int .i64 q.i, .int .i64 q.o, .int .i64 q.l, .int .i64 g.pos, .int .i64 g.vel, .int .i64 g.door]))) (by kernel_rfl) (by (try dsimp only); first | exact FP.out | go_keep) (fun hHeld => ?_)
          obtain ⟨v_11, hw1⟩ : ∃ v_11, v_11 = wr.drew := ⟨_, rfl⟩
          have FP : Hid (Blk v_11 pb [.int .i64 h.fl, .int .i64 h.gp, .int .i64 h.ln, .int .i64 h.rf, .int .i64 h.sp, .int .i64 h.pu, .int .i64 h.br, .int .i64 h.dr, .int .i64 h.lv, .int .i64 h.dO, .int .i64 h.ld, .int .i64 h.qu, .int .i64 (massN r), .int .i64 0, .int .i64 q.i, .int .i64 q.o, .int .i64 q.l, .int .i64 g.pos, .int .i64 g.vel, .int .i64 g.door]) := by rw [hw1]; exact FP.out
          have FB : Hid (Below pb w v_11) := by rw [hw1]; exact FB.out
          rw [← hw1] at hHeld ⊢
          clear hw1
          refine tkz 0 rfl ?_
          refine tkz 1 rfl ?_
          refine tkz 2 rfl ?_
          refine tkz 3 rfl ?_ (hy := Or.inl ⟨by kernel_rfl, fun wx hSw => exec_load_mid 27 _ 0 [.int .i64 h.fl, .int .i64 h.gp, .int .i64 h.ln, .int .i64 h.rf, .int .i64 h.sp, .int .i64 h.pu, .int .i64 h.br, .int .i64 h.dr, .int .i64 h.lv, .int .i64 h.dO, .int .i64 h.ld, .int .i64 h.qu] Try.underlying27 (by kernel_rfl) rfl rfl rfl hSw⟩)
          refine tkz 4 rfl ?_
          refine tkz 5 rfl ?_
          refine tkz 6 rfl ?_
          refine tkz 7 rfl ?_
          refine tkz 8 rfl ?_ (hy := Or.inl ⟨by kernel_rfl, fun wx hSw => exec_load_mid 34 _ 17 [.int .i64 g.pos, .int .i64 g.vel, .int .i64 g.door] Try.underlying34 (by kernel_rfl) rfl rfl rfl hSw⟩)
          refine tkz 9 rfl ?_
          refine wpAnyH_ready (rs := [10]) (by kernel_rfl) (by simp) ?_
          refine (AllReadyH.cons rfl (fun K hK => ?_) AllReadyH.nil)
          go_simp
          refine (CA _).mono ?_
          rintro e v_12 ⟨rfl, hb⟩
          have FP : Hid (Blk v_12 pb [.int .i64 h.fl, .int .i64 h.gp, .int .i64 h.ln, .int .i64 h.rf, .int .i64 h.sp, .int .i64 h.pu, .int .i64 h.br, .int .i64 h.dr, .int .i64 h.lv, .int .i64 h.dO, .int .i64 h.ld, .int .i64 h.qu, .int .i64 (massN r), .int .i64 0, .int .i64 q.i, .int .i64 q.o, .int .i64 q.l, .int .i64 g.pos, .int .i64 g.vel, .int .i64 g.door]) := FP.out.below hb FP.out.lt
          have FB : Hid (Below pb w v_12) := FB.out.trans (hb.mono (Nat.le_of_lt (Nat.lt_of_lt_of_le lt0 FB.out.size)))
          clear hb
          try dsimp only
          refine hK.out _ _ (by (try dsimp only); first | exact FP.out | go_keep) (fun hHeld => ?_)
          clear hK K
          try simp only [Act.put, List.getElem_toArray, List.getElem_cons_succ, List.getElem_cons_zero, List.setIfInBounds_toArray, List.set_cons_zero, List.set_cons_succ]
          refine tkz 11 rfl ?_
          refine tkz 12 rfl ?_
          refine tkz 13 rfl ?_
          refine tkz 14 rfl ?_
          refine tkz 15 rfl ?_ (hy := Or.inl ⟨by kernel_rfl, fun wx hSw => exec_load_mid 27 _ 0 [.int .i64 h.fl, .int .i64 h.gp, .int .i64 h.ln, .int .i64 h.rf, .int .i64 h.sp, .int .i64 h.pu, .int .i64 h.br, .int .i64 h.dr, .int .i64 h.lv, .int .i64 h.dO, .int .i64 h.ld, .int .i64 h.qu] Try.underlying27 (by kernel_rfl) rfl rfl rfl hSw⟩)
          refine tkz 16 rfl ?_
          refine tkz 17 rfl ?_
          refine tkz 18 rfl ?_
          refine tkz 19 rfl ?_
          refine tkz 20 rfl ?_ (hy := Or.inl ⟨by kernel_rfl, fun wx hSw => exec_load_mid 34 _ 17 [.int .i64 g.pos, .int .i64 g.vel, .int .i64 g.door] Try.underlying34 (by kernel_rfl) rfl rfl rfl hSw⟩)
          refine wpAnyH_ready (rs := [21]) (by kernel_rfl) (by simp) ?_
          refine (AllReadyH.cons rfl (fun K hK => ?_) AllReadyH.nil)
          go_simp
          refine (CS _).mono ?_
          rintro e v_13 ⟨rfl, hb⟩
          have FP : Hid (Blk v_13 pb [.int .i64 h.fl, .int .i64 h.gp, .int .i64 h.ln, .int .i64 h.rf, .int .i64 h.sp, .int .i64 h.pu, .int .i64 h.br, .int .i64 h.dr, .int .i64 h.lv, .int .i64 h.dO, .int .i64 h.ld, .int .i64 h.qu, .int .i64 (massN r), .int .i64 0, .int .i64 q.i, .int .i64 q.o, .int .i64 q.l, .int .i64 g.pos, .int .i64 g.vel, .int .i64 g.door]) := FP.out.below hb FP.out.lt
          have FB : Hid (Below pb w v_13) := FB.out.trans (hb.mono (Nat.le_of_lt (Nat.lt_of_lt_of_le lt0 FB.out.size)))
          clear hb
          try dsimp only
          refine hK.out _ _ (by (try dsimp only); first | exact FP.out | go_keep) (fun hHeld => ?_)
          clear hK K
          try simp only [Act.put, List.getElem_toArray, List.getElem_cons_succ, List.getElem_cons_zero, List.setIfInBounds_toArray, List.set_cons_zero, List.set_cons_succ]
          refine tkz 22 rfl ?_
          refine tkz 23 rfl ?_
          refine wpAnyH_done (by kernel_rfl) ?_ _
          go_wp2
          exact bodyPost_ret (v := .tuple #[]) (by simp [results, Try.results55, go_sem]) rfl ⟨rfl, g, q, HE.out, FP.out, FB.out⟩
    · have HE : Hid ((inB g.pos h.low h.high = true ∧ R = ⟨0, q, g⟩) ∨ (inB g.pos h.low h.high = false ∧ R = Bks.bad 3)) := by
        rcases hst with ⟨_, _, hi, hr⟩ | hbad
        · refine Or.inl ⟨hi, ?_⟩
          rw [← hr, show (t - n).toNat = 0 by omega]
          rfl
        · exact Or.inr hbad
      clear hst
      go_wp2
      go_end0
      exact ⟨rfl, g, q, HE.out, FP.out, FB.out⟩
end Go.Proofs.Ytngdfckknkgdgaa
