/-
  The model's ledger: a call put to it.
(A pointer into a block tells the ledger.)
-/
import Derived.Test.YtdkikijnjkoddaaGreatPersO
import Derived.Test.YtdkikijnjkoddaaGreatPsA
import Derived.Test.YtdkikijnjkoddaaGreatFnd
namespace Go.Proofs.YtdkikijnjkoddaaGreat
open Go.RowKit Pl
set_option linter.unusedSimpArgs false
set_option linter.unusedVariables false

/-- A ledger that may be written lies from the cell o of the block b on, which holds the list vs. -/
structure LWo (w : World) (b o : Nat) (nx : Int) (v : Value) (vs : List Value) : Prop where
  c0 : w.cell? ⟨b, o, none⟩ = some (.int .i64 nx)
  c1 : w.cell? ⟨b, o + 1, none⟩ = some v
  f0 : w.frozen? ⟨b, o, none⟩ = false
  f1 : w.frozen? ⟨b, o + 1, none⟩ = false
  bk : Blk w b vs
  h0 : vs[o]? = some (.int .i64 nx)
  h1 : vs[o + 1]? = some v
theorem LWo.mk' {w : World} {b o : Nat} {nx : Int} {v : Value} {vs : List Value} (h : Blk w b vs) (h0 : vs[o]? = some (.int .i64 nx)) (h1 : vs[o + 1]? = some v) : LWo w b o nx v vs :=
  ⟨h.c o _ h0, h.c (o + 1) _ h1, h.f o (List.getElem?_eq_some_iff.1 h0).1, h.f (o + 1) (List.getElem?_eq_some_iff.1 h1).1, h, h0, h1⟩
theorem LWo.lt {w : World} {b o : Nat} {nx : Int} {v : Value} {vs : List Value} (h : LWo w b o nx v vs) : b < w.heap.size := h.bk.lt
theorem LWo.below {W w : World} {b o B : Nat} {nx : Int} {v : Value} {vs : List Value} (a : LWo W b o nx v vs) (hb : Below B W w) (hB : b < B) : LWo w b o nx v vs := LWo.mk' (a.bk.below hb hB) a.h0 a.h1
theorem LWo.alloc {W : World} {b o : Nat} {nx : Int} {v : Value} {vs : List Value} (a : LWo W b o nx v vs) (x : Obj) : LWo (W.alloc x) b o nx v vs := LWo.mk' (a.bk.alloc x) a.h0 a.h1
theorem LWo.drew {W : World} {b o : Nat} {nx : Int} {v : Value} {vs : List Value} (a : LWo W b o nx v vs) : LWo W.drew b o nx v vs := LWo.mk' a.bk.drew a.h0 a.h1
theorem LWo.other {W : World} {b k q o : Nat} {u : Value} {nx : Int} {v : Value} {vs : List Value} (a : LWo W b o nx v vs) (hne : b ≠ k) : LWo (W.setCell ⟨k, q, none⟩ u) b o nx v vs := LWo.mk' (a.bk.other hne) a.h0 a.h1
theorem LWo.grown {W w : World} {b o : Nat} {nx : Int} {v : Value} {vs : List Value} {row : Option Nat} (a : LWo W b o nx v vs) (hg : W.grownBy w row) (hne : some b ≠ row) : LWo w b o nx v vs := LWo.mk' (a.bk.grown hg hne) a.h0 a.h1
theorem LWo.set0 {W : World} {b o : Nat} {nx : Int} {v : Value} {vs : List Value} (a : LWo W b o nx v vs) (y : Int) : LWo (W.setCell ⟨b, o, none⟩ (.int .i64 y)) b o y v (vs.set o (.int .i64 y)) :=
  LWo.mk' (a.bk.set _ (List.getElem?_eq_some_iff.1 a.h0).1) (List.getElem?_set_self (List.getElem?_eq_some_iff.1 a.h0).1) ((List.getElem?_set_ne (by omega)).trans a.h1)
theorem LWo.set1 {W : World} {b o : Nat} {nx : Int} {v : Value} {vs : List Value} (a : LWo W b o nx v vs) (u : Value) : LWo (W.setCell ⟨b, o + 1, none⟩ u) b o nx u (vs.set (o + 1) u) :=
  LWo.mk' (a.bk.set _ (List.getElem?_eq_some_iff.1 a.h1).1) ((List.getElem?_set_ne (by omega)).trans a.h0) (List.getElem?_set_self (List.getElem?_eq_some_iff.1 a.h1).1)
theorem LWo.lat {w : World} {b o : Nat} {nx : Int} {a : Option Addr} {len cap : Nat} {vs : List Value} (h : LWo w b o nx (.slice a len cap) vs) : LAo w b o nx a len cap := ⟨h.c0, h.c1⟩
def addPostO (h : Hs) (lb lo B : Nat) (vs : List Value) (nx : Int) (l : List Pe) (f t sh ca : Int) (w : World) (e : Ending) (w' : World) : Prop :=
  e = .returned (.int .i64 (Hs.addC h ⟨nx, l⟩ f t sh ca)) ∧ ∃ v', LWo w' lb lo (if Hs.addC h ⟨nx, l⟩ f t sh ca = 0 then nx + 1 else nx) v' (if Hs.addC h ⟨nx, l⟩ f t sh ca = 0 then (vs.set (lo + 1) v').set lo (.int .i64 (nx + 1)) else vs) ∧ Own w' B v' (if Hs.addC h ⟨nx, l⟩ f t sh ca = 0 then freeL l ++ [(⟨nx, f, t, sh, ca, 0, 0⟩ : Pe)] else l) ∧ v'.ownBlock ≠ some lb ∧ w.grownBy w' (some lb)
set_option maxRecDepth 20000 in
set_option maxHeartbeats 16000000 in
theorem l7Add_rowO (h : Hs) (lb lo B : Nat) (g cap : Nat) (l : List Pe) (nx f t sh ca : Int) (vs : List Value) (n1 : -1000000000000000 ≤ nx) (n2 : nx ≤ 1000000000000000) (hl : l.length ≤ 60) (hne : lb ≠ g) (w : World) (hB : B ≤ w.heap.size) (hL : LWo w lb lo nx (.slice (some ⟨g, 0, none⟩) l.length cap) vs) (ho : Ow w B g l.length cap l) :
    Calls Tryz.prog 19 #[.agg #[.int .i64 h.fl, .int .i64 h.gp, .int .i64 h.ln, .int .i64 h.rf, .int .i64 h.sp, .int .i64 h.pu, .int .i64 h.br, .int .i64 h.dr, .int .i64 h.lv, .int .i64 h.dO, .int .i64 h.ld, .int .i64 h.qu], .pointer (some ⟨lb, lo, none⟩), .int .i64 f, .int .i64 t, .int .i64 sh, .int .i64 ca] w (addPostO h lb lo B vs nx l f t sh ca w) := by
  have llb := hL.lt
  have lgw := ho.bl.2
  unfold addPostO
  obtain ⟨K, hK⟩ : ∃ K, Hs.addC h ⟨nx, l⟩ f t sh ca = K := ⟨_, rfl⟩
  rw [hK]
  unfold Hs.addC at hK
  dsimp only at hK
  by_cases hcall : Hs.call h f t = 0
  case neg =>
    rw [if_neg hcall] at hK
    subst hK
    simp only [if_neg hcall]
    have hn : (Hs.call h f t != 0) = true := by simpa using hcall
    clear hcall
    go_enter Tryz.func19, Tryz.ntmps19
    go_upto_region 1 with fail
    obtain ⟨W0, hW0⟩ : ∃ W0, W0 = w.alloc (.cells #[.int .i64 h.fl, .int .i64 h.gp, .int .i64 h.ln, .int .i64 h.rf, .int .i64 h.sp, .int .i64 h.pu, .int .i64 h.br, .int .i64 h.dr, .int .i64 h.lv, .int .i64 h.dO, .int .i64 h.ld, .int .i64 h.qu] 31) := ⟨_, rfl⟩
    have F0 : Hid (HAt W0 w.heap.size h) := by rw [hW0]; exact HAt.at_ w h _ _ rfl
    have FL : Hid (LWo W0 lb lo nx (.slice (some ⟨g, 0, none⟩) l.length cap) vs) := by rw [hW0]; exact hL.alloc _
    have FO : Hid (Ow W0 B g l.length cap l) := by rw [hW0]; exact ho.alloc _
    have FG : Hid (w.grownBy W0 (some lb)) := by rw [hW0]; exact grown_new _ _ _
    rw [← hW0]
    clear hW0
    obtain ⟨x0_0, x0_1, x0_2, x0_3, x0_4, x0_5, x0_6, x0_7, x0_8, x0_9, x0_10, x0_11⟩ := F0.out
    obtain ⟨v0, v1, v2, v3, -, -, -⟩ := FL.out
    go_upto_region 3 with (go_at_call 16; refine (specCallFault_any h f t _).mono ?_; rintro e w1 ⟨rfl, hb⟩; have F0 : Hid (HAt w1 w.heap.size h) := F0.out.below hb F0.out.lt; have FL : Hid (LWo w1 lb lo nx (.slice (some ⟨g, 0, none⟩) l.length cap) vs) := FL.out.below hb FL.out.lt; have FO : Hid (Ow w1 B g l.length cap l) := FO.out.below hb FO.out.bl.2; have FG : Hid (w.grownBy w1 (some lb)) := gr_below FG.out hb; clear hb; obtain ⟨x0_0, x0_1, x0_2, x0_3, x0_4, x0_5, x0_6, x0_7, x0_8, x0_9, x0_10, x0_11⟩ := F0.out; obtain ⟨v0, v1, v2, v3, -, -, -⟩ := FL.out)
    go_wp2_with fail
    go_ret
    exact ⟨rfl, _, FL.out, FO.out.own, (fun e => hne (Option.some.inj e).symm), FG.out⟩
  rw [if_pos hcall] at hK
  cases kc : carB sh ca
  · rw [kc, if_neg (by simp)] at hK
    subst hK
    first | simp only [if_neg (show ¬ ((3 : Int) = 0) by omega)] | simp only [if_neg (show ¬ ((7 : Int) = 0) by omega)] | simp only [if_neg (show ¬ ((2 : Int) = 0) by omega)]
    go_enter Tryz.func19, Tryz.ntmps19
    go_upto_region 1 with fail
    obtain ⟨W0, hW0⟩ : ∃ W0, W0 = w.alloc (.cells #[.int .i64 h.fl, .int .i64 h.gp, .int .i64 h.ln, .int .i64 h.rf, .int .i64 h.sp, .int .i64 h.pu, .int .i64 h.br, .int .i64 h.dr, .int .i64 h.lv, .int .i64 h.dO, .int .i64 h.ld, .int .i64 h.qu] 31) := ⟨_, rfl⟩
    have F0 : Hid (HAt W0 w.heap.size h) := by rw [hW0]; exact HAt.at_ w h _ _ rfl
    have FL : Hid (LWo W0 lb lo nx (.slice (some ⟨g, 0, none⟩) l.length cap) vs) := by rw [hW0]; exact hL.alloc _
    have FO : Hid (Ow W0 B g l.length cap l) := by rw [hW0]; exact ho.alloc _
    have FG : Hid (w.grownBy W0 (some lb)) := by rw [hW0]; exact grown_new _ _ _
    rw [← hW0]
    clear hW0
    obtain ⟨x0_0, x0_1, x0_2, x0_3, x0_4, x0_5, x0_6, x0_7, x0_8, x0_9, x0_10, x0_11⟩ := F0.out
    obtain ⟨v0, v1, v2, v3, -, -, -⟩ := FL.out
    go_upto_region 5 with (first | (go_at_call 16; refine (specCallFault_any h f t _).mono ?_; rw [hcall]; rintro e w1 ⟨rfl, hb⟩; have F0 : Hid (HAt w1 w.heap.size h) := F0.out.below hb F0.out.lt; have FL : Hid (LWo w1 lb lo nx (.slice (some ⟨g, 0, none⟩) l.length cap) vs) := FL.out.below hb FL.out.lt; have FO : Hid (Ow w1 B g l.length cap l) := FO.out.below hb FO.out.bl.2; have FG : Hid (w.grownBy w1 (some lb)) := gr_below FG.out hb; clear hb; obtain ⟨x0_0, x0_1, x0_2, x0_3, x0_4, x0_5, x0_6, x0_7, x0_8, x0_9, x0_10, x0_11⟩ := F0.out; obtain ⟨v0, v1, v2, v3, -, -, -⟩ := FL.out) | (go_at_call 42; refine (l7Car_any _ _ _).mono ?_; rw [kc]; rintro e w' ⟨rfl, hw⟩; obtain rfl := hw.symm; clear hw))
    go_wp2_with fail
    go_ret
    exact ⟨rfl, _, FL.out, FO.out.own, (fun e => hne (Option.some.inj e).symm), FG.out⟩
  rw [kc, if_pos rfl] at hK
  by_cases kq : h.qu ≤ (cnt 0 (-1) 0 l : Int)
  · rw [if_pos kq] at hK
    subst hK
    first | simp only [if_neg (show ¬ ((3 : Int) = 0) by omega)] | simp only [if_neg (show ¬ ((7 : Int) = 0) by omega)] | simp only [if_neg (show ¬ ((2 : Int) = 0) by omega)]
    have bq : decide (h.qu ≤ (cnt 0 (-1) 0 l : Int)) = true := decide_eq_true kq
    clear kq
    go_enter Tryz.func19, Tryz.ntmps19
    go_upto_region 1 with fail
    obtain ⟨W0, hW0⟩ : ∃ W0, W0 = w.alloc (.cells #[.int .i64 h.fl, .int .i64 h.gp, .int .i64 h.ln, .int .i64 h.rf, .int .i64 h.sp, .int .i64 h.pu, .int .i64 h.br, .int .i64 h.dr, .int .i64 h.lv, .int .i64 h.dO, .int .i64 h.ld, .int .i64 h.qu] 31) := ⟨_, rfl⟩
    have F0 : Hid (HAt W0 w.heap.size h) := by rw [hW0]; exact HAt.at_ w h _ _ rfl
    have FL : Hid (LWo W0 lb lo nx (.slice (some ⟨g, 0, none⟩) l.length cap) vs) := by rw [hW0]; exact hL.alloc _
    have FO : Hid (Ow W0 B g l.length cap l) := by rw [hW0]; exact ho.alloc _
    have FG : Hid (w.grownBy W0 (some lb)) := by rw [hW0]; exact grown_new _ _ _
    rw [← hW0]
    clear hW0
    obtain ⟨x0_0, x0_1, x0_2, x0_3, x0_4, x0_5, x0_6, x0_7, x0_8, x0_9, x0_10, x0_11⟩ := F0.out
    obtain ⟨v0, v1, v2, v3, -, -, -⟩ := FL.out
    go_upto_region 6 with (first | (go_at_call 16; refine (specCallFault_any h f t _).mono ?_; rw [hcall]; rintro e w1 ⟨rfl, hb⟩; have F0 : Hid (HAt w1 w.heap.size h) := F0.out.below hb F0.out.lt; have FL : Hid (LWo w1 lb lo nx (.slice (some ⟨g, 0, none⟩) l.length cap) vs) := FL.out.below hb FL.out.lt; have FO : Hid (Ow w1 B g l.length cap l) := FO.out.below hb FO.out.bl.2; have FG : Hid (w.grownBy w1 (some lb)) := gr_below FG.out hb; clear hb; obtain ⟨x0_0, x0_1, x0_2, x0_3, x0_4, x0_5, x0_6, x0_7, x0_8, x0_9, x0_10, x0_11⟩ := F0.out; obtain ⟨v0, v1, v2, v3, -, -, -⟩ := FL.out) | (go_at_call 42; refine (l7Car_any _ _ _).mono ?_; rw [kc]; rintro e w' ⟨rfl, hw⟩; obtain rfl := hw.symm; clear hw))
    have F0 : Hid (HAt w1.drew w.heap.size h) := F0.out.below (Below.refl _ _).drew F0.out.lt
    have FL : Hid (LWo w1.drew lb lo nx (.slice (some ⟨g, 0, none⟩) l.length cap) vs) := FL.out.below (Below.refl _ _).drew FL.out.lt
    have FO : Hid (Ow w1.drew B g l.length cap l) := FO.out.below (Below.refl _ _).drew FO.out.lt
    have FG : Hid (w.grownBy w1.drew (some lb)) := gr_drew FG.out
    have mq := F0.out.c11
    refine wp_region_held_drew (S := (fun w'' => w''.cell? ⟨w.heap.size, 11, none⟩ = some (.int .i64 h.qu))) (by kernel_rfl) (by (try dsimp only); first | exact mq | go_keep) (fun hHeld => ?_)
    obtain ⟨v_1, hw1⟩ : ∃ v_1, v_1 = w1.drew := ⟨_, rfl⟩
    have F0 : Hid (HAt v_1 w.heap.size h) := by rw [hw1]; exact F0.out
    have FL : Hid (LWo v_1 lb lo nx (.slice (some ⟨g, 0, none⟩) l.length cap) vs) := by rw [hw1]; exact FL.out
    have FO : Hid (Ow v_1 B g l.length cap l) := by rw [hw1]; exact FO.out
    have FG : Hid (w.grownBy v_1 (some lb)) := by rw [hw1]; exact FG.out
    rw [← hw1] at hHeld ⊢
    clear hw1
    have mq := F0.out.c11
    refine tkz 0 rfl ?_
    refine tkz 2 rfl ?_
    refine tkz 3 rfl ?_
    refine wpAnyH_ready (rs := [1]) (by kernel_rfl) (by simp) ?_
    refine (AllReadyH.cons rfl (fun K hK => ?_) AllReadyH.nil)
    go_simp
    refine (l7Count_anyO lb lo nx (some ⟨g, 0, none⟩) cap l 0 (-1) 0 (by omega) _ FL.out.lat (FO.out.pin FO.out.bl.2)).mono ?_
    rintro e v_2 ⟨rfl, hb⟩
    have F0 : Hid (HAt v_2 w.heap.size h) := F0.out.below hb F0.out.lt
    have FL : Hid (LWo v_2 lb lo nx (.slice (some ⟨g, 0, none⟩) l.length cap) vs) := FL.out.below hb FL.out.lt
    have FO : Hid (Ow v_2 B g l.length cap l) := FO.out.below hb FO.out.lt
    have FG : Hid (w.grownBy v_2 (some lb)) := gr_below FG.out hb
    clear hb
    have mq := F0.out.c11
    try dsimp only
    refine hK.out _ _ (by (try dsimp only); first | exact mq | go_keep) (fun hHeld => ?_)
    clear hK K
    try simp only [Act.put, List.getElem_toArray, List.getElem_cons_succ, List.getElem_cons_zero, List.setIfInBounds_toArray, List.set_cons_zero, List.set_cons_succ]
    refine tkz 4 rfl ?_
    refine wpAnyH_done (by kernel_rfl) ?_ _
    go_upto_region 7 with fail
    obtain ⟨w2, hW_⟩ : ∃ w2, w2 = v_2 := ⟨_, rfl⟩
    have F0 : Hid (HAt w2 w.heap.size h) := by rw [hW_]; exact F0.out
    have FL : Hid (LWo w2 lb lo nx (.slice (some ⟨g, 0, none⟩) l.length cap) vs) := by rw [hW_]; exact FL.out
    have FO : Hid (Ow w2 B g l.length cap l) := by rw [hW_]; exact FO.out
    have FG : Hid (w.grownBy w2 (some lb)) := by rw [hW_]; exact FG.out
    rw [← hW_]
    clear hW_
    go_wp2_with fail
    go_ret
    exact ⟨rfl, _, FL.out, FO.out.own, (fun e => hne (Option.some.inj e).symm), FG.out⟩
  rw [if_neg kq] at hK
  have bq : decide (h.qu ≤ (cnt 0 (-1) 0 l : Int)) = false := decide_eq_false kq
  clear kq
  go_enter Tryz.func19, Tryz.ntmps19
  go_upto_region 1 with fail
  obtain ⟨W0, hW0⟩ : ∃ W0, W0 = w.alloc (.cells #[.int .i64 h.fl, .int .i64 h.gp, .int .i64 h.ln, .int .i64 h.rf, .int .i64 h.sp, .int .i64 h.pu, .int .i64 h.br, .int .i64 h.dr, .int .i64 h.lv, .int .i64 h.dO, .int .i64 h.ld, .int .i64 h.qu] 31) := ⟨_, rfl⟩
  have F0 : Hid (HAt W0 w.heap.size h) := by rw [hW0]; exact HAt.at_ w h _ _ rfl
  have FL : Hid (LWo W0 lb lo nx (.slice (some ⟨g, 0, none⟩) l.length cap) vs) := by rw [hW0]; exact hL.alloc _
  have FO : Hid (Ow W0 B g l.length cap l) := by rw [hW0]; exact ho.alloc _
  have FG : Hid (w.grownBy W0 (some lb)) := by rw [hW0]; exact grown_new _ _ _
  rw [← hW0]
  clear hW0
  obtain ⟨x0_0, x0_1, x0_2, x0_3, x0_4, x0_5, x0_6, x0_7, x0_8, x0_9, x0_10, x0_11⟩ := F0.out
  obtain ⟨v0, v1, v2, v3, -, -, -⟩ := FL.out
  go_upto_region 6 with (first | (go_at_call 16; refine (specCallFault_any h f t _).mono ?_; rw [hcall]; rintro e w1 ⟨rfl, hb⟩; have F0 : Hid (HAt w1 w.heap.size h) := F0.out.below hb F0.out.lt; have FL : Hid (LWo w1 lb lo nx (.slice (some ⟨g, 0, none⟩) l.length cap) vs) := FL.out.below hb FL.out.lt; have FO : Hid (Ow w1 B g l.length cap l) := FO.out.below hb FO.out.bl.2; have FG : Hid (w.grownBy w1 (some lb)) := gr_below FG.out hb; clear hb; obtain ⟨x0_0, x0_1, x0_2, x0_3, x0_4, x0_5, x0_6, x0_7, x0_8, x0_9, x0_10, x0_11⟩ := F0.out; obtain ⟨v0, v1, v2, v3, -, -, -⟩ := FL.out) | (go_at_call 42; refine (l7Car_any _ _ _).mono ?_; rw [kc]; rintro e w' ⟨rfl, hw⟩; obtain rfl := hw.symm; clear hw))
  have F0 : Hid (HAt w1.drew w.heap.size h) := F0.out.below (Below.refl _ _).drew F0.out.lt
  have FL : Hid (LWo w1.drew lb lo nx (.slice (some ⟨g, 0, none⟩) l.length cap) vs) := FL.out.below (Below.refl _ _).drew FL.out.lt
  have FO : Hid (Ow w1.drew B g l.length cap l) := FO.out.below (Below.refl _ _).drew FO.out.lt
  have FG : Hid (w.grownBy w1.drew (some lb)) := gr_drew FG.out
  have mq := F0.out.c11
  refine wp_region_held_drew (S := (fun w'' => w''.cell? ⟨w.heap.size, 11, none⟩ = some (.int .i64 h.qu))) (by kernel_rfl) (by (try dsimp only); first | exact mq | go_keep) (fun hHeld => ?_)
  obtain ⟨v_3, hw1⟩ : ∃ v_3, v_3 = w1.drew := ⟨_, rfl⟩
  have F0 : Hid (HAt v_3 w.heap.size h) := by rw [hw1]; exact F0.out
  have FL : Hid (LWo v_3 lb lo nx (.slice (some ⟨g, 0, none⟩) l.length cap) vs) := by rw [hw1]; exact FL.out
  have FO : Hid (Ow v_3 B g l.length cap l) := by rw [hw1]; exact FO.out
  have FG : Hid (w.grownBy v_3 (some lb)) := by rw [hw1]; exact FG.out
  rw [← hw1] at hHeld ⊢
  clear hw1
  have mq := F0.out.c11
  refine tkz 0 rfl ?_
  refine tkz 2 rfl ?_
  refine tkz 3 rfl ?_
  refine wpAnyH_ready (rs := [1]) (by kernel_rfl) (by simp) ?_
  refine (AllReadyH.cons rfl (fun K hK => ?_) AllReadyH.nil)
  go_simp
  refine (l7Count_anyO lb lo nx (some ⟨g, 0, none⟩) cap l 0 (-1) 0 (by omega) _ FL.out.lat (FO.out.pin FO.out.bl.2)).mono ?_
  rintro e v_4 ⟨rfl, hb⟩
  have F0 : Hid (HAt v_4 w.heap.size h) := F0.out.below hb F0.out.lt
  have FL : Hid (LWo v_4 lb lo nx (.slice (some ⟨g, 0, none⟩) l.length cap) vs) := FL.out.below hb FL.out.lt
  have FO : Hid (Ow v_4 B g l.length cap l) := FO.out.below hb FO.out.lt
  have FG : Hid (w.grownBy v_4 (some lb)) := gr_below FG.out hb
  clear hb
  have mq := F0.out.c11
  try dsimp only
  refine hK.out _ _ (by (try dsimp only); first | exact mq | go_keep) (fun hHeld => ?_)
  clear hK K
  try simp only [Act.put, List.getElem_toArray, List.getElem_cons_succ, List.getElem_cons_zero, List.setIfInBounds_toArray, List.set_cons_zero, List.set_cons_succ]
  refine tkz 4 rfl ?_
  refine wpAnyH_done (by kernel_rfl) ?_ _
  go_upto_region 8 with fail
  obtain ⟨w2, hW_⟩ : ∃ w2, w2 = v_4 := ⟨_, rfl⟩
  have F0 : Hid (HAt w2 w.heap.size h) := by rw [hW_]; exact F0.out
  have FL : Hid (LWo w2 lb lo nx (.slice (some ⟨g, 0, none⟩) l.length cap) vs) := by rw [hW_]; exact FL.out
  have FO : Hid (Ow w2 B g l.length cap l) := by rw [hW_]; exact FO.out
  have FG : Hid (w.grownBy w2 (some lb)) := by rw [hW_]; exact FG.out
  rw [← hW_]
  clear hW_
  obtain ⟨v0, v1, v2, v3, -, -, -⟩ := FL.out
  have ewl : IntKind.i64.wrap ((l.length : Int) - 1) = (l.length : Int) - 1 := IntWalk.i64_in _ (by omega)
  go_wp2_with fail
  go_loopw [14, 15] (fun oo ii wr => ((∃ i : Nat, ii = .int .i64 i ∧ i < l.length ∧ oo = .int .i64 (oldAt l (i + 1))) ∨ (ii = .int .i64 (-1) ∧ oo = .int .i64 (fiR l))) ∧ HAt wr w.heap.size h ∧ LWo wr lb lo nx (.slice (some ⟨g, 0, none⟩) l.length cap) vs ∧ Ow wr B g l.length cap l ∧ w.grownBy wr (some lb)) (fun _ ii _ => (intOf ii + 1).toNat)
  case atStart =>
    refine ⟨?_, F0.out, FL.out, FO.out, FG.out⟩
    by_cases e : l.length = 0
    · exact Or.inr ⟨by rw [e]; rfl, by unfold fiR; rw [if_neg (by omega)]⟩
    · exact Or.inl ⟨l.length - 1, by first | (congr 1; omega) | (congr 1), by omega, by rw [show l.length - 1 + 1 = l.length by omega, oldAt_end]⟩
  case round =>
    obtain ⟨hcs, hF0, hFL, hFO, hFG⟩ := hrel
    clear F0 FL FO FG
    have F0 : Hid (HAt wr w.heap.size h) := hF0
    have FL : Hid (LWo wr lb lo nx (.slice (some ⟨g, 0, none⟩) l.length cap) vs) := hFL
    have FO : Hid (Ow wr B g l.length cap l) := hFO
    have FG : Hid (w.grownBy wr (some lb)) := hFG
    clear hF0 hFL hFO hFG
    obtain ⟨v0, v1, v2, v3, -, -, -⟩ := FL.out
    rcases hcs with ⟨i, rfl, hil, rfl⟩ | ⟨rfl, rfl⟩
    · obtain ⟨p, hp⟩ : ∃ p, l[i]? = some p := ⟨_, List.getElem?_eq_getElem hil⟩
      have H0 : Hid (l[i]? = some p) := hp
      obtain ⟨d0, d1, d2, d3, d4, d5, d6⟩ := FO.out.p7 hp
      have ew : IntKind.i64.wrap ((i : Int) - 1) = (i : Int) - 1 := IntWalk.i64_in _ (by omega)
      clear hp
      cases ka : act p
      · have KD : Hid (doneB p = true) := by rw [← act_done, ka]; exact rfl
        have HO : Hid (oldAt l i = (i : Int)) := by rw [oldAt_step H0.out, KD.out]; exact rfl
        go_wp2_with (go_at_call 44; refine (l7Active_any p _).mono ?_; rw [ka]; rintro e w3 ⟨rfl, hb⟩; have F0 : Hid (HAt w3 w.heap.size h) := F0.out.below hb F0.out.lt; have FL : Hid (LWo w3 lb lo nx (.slice (some ⟨g, 0, none⟩) l.length cap) vs) := FL.out.below hb FL.out.lt; have FO : Hid (Ow w3 B g l.length cap l) := FO.out.below hb FO.out.bl.2; have FG : Hid (w.grownBy w3 (some lb)) := gr_below FG.out hb; clear hb)
        go_roundw
        case rel =>
          refine ⟨?_, F0.out, FL.out, FO.out, FG.out⟩
          by_cases e : i = 0
          · subst e
            exact Or.inr ⟨by simp, by rw [← oldAt_zero, HO.out] <;> simp⟩
          · exact Or.inl ⟨i - 1, by first | (congr 1; omega) | (congr 1), by omega, by rw [show i - 1 + 1 = i by omega, HO.out]⟩
        case measure => simp [intOf] <;> omega
      · have KD : Hid (doneB p = false) := by rw [← act_done, ka]; exact rfl
        have HO : Hid (oldAt l i = oldAt l (i + 1)) := by rw [oldAt_step H0.out, KD.out]; exact rfl
        go_wp2_with (go_at_call 44; refine (l7Active_any p _).mono ?_; rw [ka]; rintro e w3 ⟨rfl, hb⟩; have F0 : Hid (HAt w3 w.heap.size h) := F0.out.below hb F0.out.lt; have FL : Hid (LWo w3 lb lo nx (.slice (some ⟨g, 0, none⟩) l.length cap) vs) := FL.out.below hb FL.out.lt; have FO : Hid (Ow w3 B g l.length cap l) := FO.out.below hb FO.out.bl.2; have FG : Hid (w.grownBy w3 (some lb)) := gr_below FG.out hb; clear hb)
        go_roundw
        case rel =>
          refine ⟨?_, F0.out, FL.out, FO.out, FG.out⟩
          by_cases e : i = 0
          · subst e
            exact Or.inr ⟨by simp, by rw [← oldAt_zero, HO.out] <;> simp⟩
          · exact Or.inl ⟨i - 1, by first | (congr 1; omega) | (congr 1), by omega, by rw [show i - 1 + 1 = i by omega, HO.out]⟩
        case measure => simp [intOf] <;> omega
    · have hfl := fi_le l
      by_cases km : nx = 1000000000000000
      · rw [if_pos (Or.inl km)] at hK
        subst hK
        have bm : (nx == 1000000000000000) = true := by simpa using km
        clear km
        cases b60 : decide ((60 : Int) ≤ (l.length : Int))
        · go_wp2_with fail
          go_ret
          exact ⟨rfl, .slice (some ⟨g, 0, none⟩) l.length cap, (by first | exact FL.out | (rw [if_neg (by omega), if_neg (by omega)]; exact FL.out)), (by first | exact FO.out.own | (rw [if_neg (by omega)]; exact FO.out.own)), (fun e => hne (Option.some.inj e).symm), FG.out⟩
        · cases bo : decide (fiR l < 0)
          · go_wp2_with fail
            go_ret
            exact ⟨rfl, .slice (some ⟨g, 0, none⟩) l.length cap, (by first | exact FL.out | (rw [if_neg (by omega), if_neg (by omega)]; exact FL.out)), (by first | exact FO.out.own | (rw [if_neg (by omega)]; exact FO.out.own)), (fun e => hne (Option.some.inj e).symm), FG.out⟩
          · go_wp2_with fail
            go_ret
            exact ⟨rfl, .slice (some ⟨g, 0, none⟩) l.length cap, (by first | exact FL.out | (rw [if_neg (by omega), if_neg (by omega)]; exact FL.out)), (by first | exact FO.out.own | (rw [if_neg (by omega)]; exact FO.out.own)), (fun e => hne (Option.some.inj e).symm), FG.out⟩
      have bm : (nx == 1000000000000000) = false := by simpa using km
      by_cases k60 : 60 ≤ l.length
      · by_cases ko : l.length ≤ fi l
        · rw [if_pos (Or.inr ⟨k60, ko⟩)] at hK
          subst hK
          have bo : decide (fiR l < 0) = true := decide_eq_true (by unfold fiR; rw [if_neg (by omega)]; omega)
          have b60 : decide ((60 : Int) ≤ (l.length : Int)) = true := decide_eq_true (by omega)
          clear km
          go_wp2_with fail
          go_ret
          exact ⟨rfl, .slice (some ⟨g, 0, none⟩) l.length cap, (by first | exact FL.out | (rw [if_neg (by omega), if_neg (by omega)]; exact FL.out)), (by first | exact FO.out.own | (rw [if_neg (by omega)]; exact FO.out.own)), (fun e => hne (Option.some.inj e).symm), FG.out⟩
        · rw [if_neg (by omega)] at hK
          subst hK
          obtain ⟨k, hk⟩ : ∃ k, fi l = k := ⟨_, rfl⟩
          have er : fiR l = (k : Int) := by unfold fiR; rw [hk, if_pos (by omega)]
          have HF : Hid (freeL l ++ [(⟨nx, f, t, sh, ca, 0, 0⟩ : Pe)] = l.eraseIdx k ++ [(⟨nx, f, t, sh, ca, 0, 0⟩ : Pe)]) := by unfold freeL; rw [if_pos (by omega), hk]; exact rfl
          rw [er]
          have bo : decide ((k : Int) < 0) = false := decide_eq_false (by omega)
          have b60 : decide ((60 : Int) ≤ (l.length : Int)) = true := decide_eq_true (by omega)
          have hcap : l.length ≤ cap := (FO.out.own.cases.resolve_left (fun e => by have := e.1; cases this)).elim (fun g' q => by obtain ⟨c', e, q⟩ := q; injection e with e1 e2 e3; subst e3; exact q.2.2.1)
          have hc1 := cut_to g k l.length cap (by omega)
          obtain ⟨d2, D2_, hc2⟩ := cut_from2 g 0 (k + 1) l.length cap ((k : Int) + 1) (by omega) (by omega)
          have D2 : Hid (k + 1 < cap → d2 = ⟨g, 0 + (k + 1) * 7, none⟩) := D2_
          have ew1 : IntKind.i64.wrap ((k : Int) + 1) = (k : Int) + 1 := IntWalk.i64_in _ (by omega)
          have le1 : (l.take k).length = k := by rw [List.length_take]; omega
          have le2 : (l.drop (k + 1)).length = l.length - (k + 1) := List.length_drop ..
          have LEE : Hid ((l.eraseIdx k).length = l.length - 1) := by rw [List.length_eraseIdx, if_pos (by omega)]; exact rfl
          clear D2_ km er
          go_upto_region 18 with fail
          obtain ⟨wp_, hwp⟩ : ∃ wp_, wp_ = wr := ⟨_, rfl⟩
          subst hwp
          have F0 : Hid (HAt wp_.drew w.heap.size h) := F0.out.below (Below.refl _ _).drew F0.out.lt
          have FL : Hid (LWo wp_.drew lb lo nx (.slice (some ⟨g, 0, none⟩) l.length cap) vs) := FL.out.below (Below.refl _ _).drew FL.out.lt
          have FO : Hid (Ow wp_.drew B g l.length cap l) := FO.out.below (Below.refl _ _).drew FO.out.lt
          have FG : Hid (w.grownBy wp_.drew (some lb)) := gr_drew FG.out
          refine wp_region_held_drew (S := (fun _ => True)) (by kernel_rfl) (by (try dsimp only); all_goals trivial) (fun hHeld => ?_)
          obtain ⟨v_5, hw1⟩ : ∃ v_5, v_5 = wp_.drew := ⟨_, rfl⟩
          have F0 : Hid (HAt v_5 w.heap.size h) := by rw [hw1]; exact F0.out
          have FL : Hid (LWo v_5 lb lo nx (.slice (some ⟨g, 0, none⟩) l.length cap) vs) := by rw [hw1]; exact FL.out
          have FO : Hid (Ow v_5 B g l.length cap l) := by rw [hw1]; exact FO.out
          have FG : Hid (w.grownBy v_5 (some lb)) := by rw [hw1]; exact FG.out
          rw [← hw1]
          clear hw1
          refine tkz 1 rfl ?_
          refine tkz 2 rfl ?_
          refine tkz 3 rfl ?_
          refine tkz 5 rfl ?_
          refine tkz 6 rfl ?_
          refine tkz 7 rfl ?_
          refine tkz 8 rfl ?_
          refine wpAnyH_ready (rs := [0]) (by kernel_rfl) (by simp) ?_
          refine (AllReadyH.cons rfl (fun K hK => ?_) AllReadyH.nil)
          refine step_of rfl ?_
          go_simp
          obtain ⟨ea, hea⟩ : ∃ ea, ea = v_5.heap.size := ⟨_, rfl⟩
          have lea0 := F0.out.lt
          have lea1 := FL.out.lt
          have lea2 := FG.out.size
          have lea3 := FO.out.bl.2
          rw [← hea] at lea0 lea1 lea2 lea3
          obtain ⟨v_6, hw2⟩ : ∃ v_6, v_6 = v_5.alloc (.cells #[] 89) := ⟨_, rfl⟩
          have F0 : Hid (HAt v_6 w.heap.size h) := by rw [hw2]; exact F0.out.alloc _
          have FL : Hid (LWo v_6 lb lo nx (.slice (some ⟨g, 0, none⟩) l.length cap) vs) := by rw [hw2]; exact FL.out.alloc _
          have FO : Hid (Ow v_6 B g l.length cap l) := by rw [hw2]; exact FO.out.alloc _
          have FG : Hid (w.grownBy v_6 (some lb)) := by rw [hw2]; exact grown_trans FG.out (grown_new _ _ _)
          have FE : Hid (Own v_6 ea (.slice (some ⟨ea, 0, none⟩) 0 0) []) := by rw [hw2, hea]; exact own_empty v_5 _ (Nat.le_refl _)
          rw [← hw2, ← hea]
          clear hw2 hea
          refine hK.out _ _ (by (try dsimp only); all_goals trivial) (fun hHeld => ?_)
          clear hK K
          try simp only [Act.put, List.getElem_toArray, List.getElem_cons_succ, List.getElem_cons_zero, List.setIfInBounds_toArray, List.set_cons_zero, List.set_cons_succ]
          refine wpAnyH_ready (rs := [4]) (by kernel_rfl) (by simp) ?_
          refine (AllReadyH.cons rfl (fun K hK => ?_) AllReadyH.nil)
          refine step_of rfl ?_
          refine wp_append_pe ea ea 0 0 [] (l.take k) rfl FE.out ⟨g, 0, none⟩ cap (by rw [le1]; rfl) (fun hpos => ⟨g, 0, rfl, fun i p hp => by rw [Nat.zero_add]; exact FO.out.p7 (take_get hp)⟩) (by simp <;> omega) (Nat.le_of_lt ((FE.out.lt ea rfl).2)) ?_
          intro g1 c1 v_7 ho hg
          rw [List.nil_append] at ho
          have F0 : Hid (HAt v_7 w.heap.size h) := F0.out.grown hg (fun e => by have e2 := Option.some.inj e; omega)
          have FL : Hid (LWo v_7 lb lo nx (.slice (some ⟨g, 0, none⟩) l.length cap) vs) := FL.out.grown hg (fun e => by have e2 := Option.some.inj e; omega)
          have FO : Hid (Ow v_7 B g l.length cap l) := FO.out.kept hg (fun e => by have e2 := Option.some.inj e; omega)
          have FG : Hid (w.grownBy v_7 (some lb)) := gr_new FG.out hg (by omega)
          have FA : Hid (Own v_7 ea (.slice (some ⟨g1, 0, none⟩) (l.take k).length c1) (l.take k)) := ho
          have lg1 : ea ≤ g1 := (FA.out.lt g1 rfl).1
          rw [List.nil_append]
          clear ho hg
          refine hK.out _ _ (by (try dsimp only); all_goals trivial) (fun hHeld => ?_)
          clear hK K
          try simp only [Act.put, List.getElem_toArray, List.getElem_cons_succ, List.getElem_cons_zero, List.setIfInBounds_toArray, List.set_cons_zero, List.set_cons_succ]
          refine wpAnyH_ready (rs := [9]) (by kernel_rfl) (by simp) ?_
          refine (AllReadyH.cons rfl (fun K hK => ?_) AllReadyH.nil)
          refine step_of rfl ?_
          refine wp_append_pe ea g1 (l.take k).length c1 (l.take k) (l.drop (k + 1)) rfl FA.out d2 (cap - (k + 1)) (by rw [le2]; rfl) (fun hpos => ⟨g, 0 + (k + 1) * 7, D2.out (by omega), fun i p hp => by rw [List.getElem?_drop] at hp; have q := FO.out.p7 hp; rw [Nat.zero_add, ← Nat.add_mul]; exact q⟩) (by omega) (by have := (FA.out.lt g1 rfl).2; omega) ?_
          intro g2 c2 v_8 ho hg
          rw [← List.eraseIdx_eq_take_drop_succ] at ho
          have F0 : Hid (HAt v_8 w.heap.size h) := F0.out.grown hg (fun e => by have e2 := Option.some.inj e; omega)
          have FL : Hid (LWo v_8 lb lo nx (.slice (some ⟨g, 0, none⟩) l.length cap) vs) := FL.out.grown hg (fun e => by have e2 := Option.some.inj e; omega)
          have FO : Hid (Ow v_8 B g l.length cap l) := FO.out.kept hg (fun e => by have e2 := Option.some.inj e; omega)
          have FG : Hid (w.grownBy v_8 (some lb)) := gr_new FG.out hg (by omega)
          have FQ : Hid (Own v_8 ea (.slice (some ⟨g2, 0, none⟩) (l.eraseIdx k).length c2) (l.eraseIdx k)) := ho
          have lg2 : ea ≤ g2 := (FQ.out.lt g2 rfl).1
          rw [← List.eraseIdx_eq_take_drop_succ]
          clear ho hg
          refine hK.out _ _ (by (try dsimp only); all_goals trivial) (fun hHeld => ?_)
          clear hK K
          try simp only [Act.put, List.getElem_toArray, List.getElem_cons_succ, List.getElem_cons_zero, List.setIfInBounds_toArray, List.set_cons_zero, List.set_cons_succ]
          refine tkz 10 rfl ?_
          refine wpAnyH_done (by kernel_rfl) ?_ _
          go_upto_region 19 with fail
          obtain ⟨wq, hW_⟩ : ∃ wq, wq = v_8 := ⟨_, rfl⟩
          have F0 : Hid (HAt wq w.heap.size h) := by rw [hW_]; exact F0.out
          have FL : Hid (LWo wq lb lo nx (.slice (some ⟨g, 0, none⟩) l.length cap) vs) := by rw [hW_]; exact FL.out
          have FO : Hid (Ow wq B g l.length cap l) := by rw [hW_]; exact FO.out
          have FG : Hid (w.grownBy wq (some lb)) := by rw [hW_]; exact FG.out
          have FQ : Hid (Own wq ea (.slice (some ⟨g2, 0, none⟩) (l.eraseIdx k).length c2) (l.eraseIdx k)) := by rw [hW_]; exact FQ.out
          rw [← hW_]
          clear hW_
          have F0 : Hid (HAt wq.drew w.heap.size h) := F0.out.below (Below.refl _ _).drew F0.out.lt
          have FL : Hid (LWo wq.drew lb lo nx (.slice (some ⟨g, 0, none⟩) l.length cap) vs) := FL.out.below (Below.refl _ _).drew FL.out.lt
          have FO : Hid (Ow wq.drew B g l.length cap l) := FO.out.below (Below.refl _ _).drew FO.out.lt
          have FG : Hid (w.grownBy wq.drew (some lb)) := gr_drew FG.out
          have FQ : Hid (Own wq.drew ea (.slice (some ⟨g2, 0, none⟩) (l.eraseIdx k).length c2) (l.eraseIdx k)) := FQ.out.drew
          have ml := FL.out.c0
          refine wp_region_held_drew (S := (fun w'' => w''.cell? ⟨lb, lo, none⟩ = some (.int .i64 nx))) (by kernel_rfl) (by (try dsimp only); first | exact ml | go_keep) (fun hHeld => ?_)
          obtain ⟨v_9, hw1⟩ : ∃ v_9, v_9 = wq.drew := ⟨_, rfl⟩
          have F0 : Hid (HAt v_9 w.heap.size h) := by rw [hw1]; exact F0.out
          have FL : Hid (LWo v_9 lb lo nx (.slice (some ⟨g, 0, none⟩) l.length cap) vs) := by rw [hw1]; exact FL.out
          have FO : Hid (Ow v_9 B g l.length cap l) := by rw [hw1]; exact FO.out
          have FG : Hid (w.grownBy v_9 (some lb)) := by rw [hw1]; exact FG.out
          have FQ : Hid (Own v_9 ea (.slice (some ⟨g2, 0, none⟩) (l.eraseIdx k).length c2) (l.eraseIdx k)) := by rw [hw1]; exact FQ.out
          rw [← hw1] at hHeld ⊢
          clear hw1
          have ml := FL.out.c0
          refine tkz 0 rfl ?_
          refine tkz 2 rfl ?_
          refine tkz 4 rfl ?_
          refine tkz 5 rfl ?_
          refine tkz 6 rfl ?_
          refine tkz 7 rfl ?_
          refine tkz 8 rfl ?_
          refine tkz 9 rfl ?_
          refine tkz 10 rfl ?_
          refine tkz 11 rfl ?_
          refine tkz 12 rfl ?_
          refine wpAnyH_ready (rs := [1, 13]) (by kernel_rfl) (by simp) ?_
          refine (AllReadyH.cons rfl (fun K hK => ?_) (AllReadyH.cons rfl (fun K hK => ?_) AllReadyH.nil))
          · refine step_of rfl ?_
            go_simp
            obtain ⟨eb, heb⟩ : ∃ eb, eb = v_9.heap.size := ⟨_, rfl⟩
            have leb0 := F0.out.lt
            have leb1 := FL.out.lt
            have leb2 := FG.out.size
            rw [← heb] at leb0 leb1 leb2
            first | (have ly_ := FN.out.lt; rw [← heb] at ly_) | skip
            obtain ⟨v_10, hw2⟩ : ∃ v_10, v_10 = v_9.alloc (.cells #[] 89) := ⟨_, rfl⟩
            have F0 : Hid (HAt v_10 w.heap.size h) := by rw [hw2]; exact F0.out.alloc _
            have FL : Hid (LWo v_10 lb lo nx (.slice (some ⟨g, 0, none⟩) l.length cap) vs) := by rw [hw2]; exact FL.out.alloc _
            have FO : Hid (Ow v_10 B g l.length cap l) := by rw [hw2]; exact FO.out.alloc _
            have FG : Hid (w.grownBy v_10 (some lb)) := by rw [hw2]; exact grown_trans FG.out (grown_new _ _ _)
            have FQ : Hid (Own v_10 ea (.slice (some ⟨g2, 0, none⟩) (l.eraseIdx k).length c2) (l.eraseIdx k)) := by rw [hw2]; exact FQ.out.alloc _
            have FE : Hid (Own v_10 eb (.slice (some ⟨eb, 0, none⟩) 0 0) []) := by rw [hw2, heb]; exact own_empty v_9 _ (Nat.le_refl _)
            rw [← hw2, ← heb]
            clear hw2 heb
            have ml := FL.out.c0
            refine hK.out _ _ (by (try dsimp only); first | exact ml | go_keep) (fun hHeld => ?_)
            clear hK K
            try simp only [Act.put, List.getElem_toArray, List.getElem_cons_succ, List.getElem_cons_zero, List.setIfInBounds_toArray, List.set_cons_zero, List.set_cons_succ]
            refine wpAnyH_ready (rs := [3, 13]) (by kernel_rfl) (by simp) ?_
            refine (AllReadyH.cons rfl (fun K hK => ?_) (AllReadyH.cons rfl (fun K hK => ?_) AllReadyH.nil))
            · refine step_of rfl ?_
              refine wp_append_pe eb eb 0 0 [] (l.eraseIdx k) rfl FE.out ⟨g2, 0, none⟩ c2 rfl (fun hpos => ⟨g2, 0, rfl, fun i p hp => by rw [Nat.zero_add]; exact FQ.out.ow.p7 hp⟩) (by have := LEE.out; (try simp only [List.length_nil, List.length_append, List.length_cons]); omega) (Nat.le_of_lt ((FE.out.lt eb rfl).2)) ?_
              intro g3 c3 v_11 ho hg
              rw [List.nil_append] at ho
              have F0 : Hid (HAt v_11 w.heap.size h) := F0.out.grown hg (fun e => by have e2 := Option.some.inj e; omega)
              have FL : Hid (LWo v_11 lb lo nx (.slice (some ⟨g, 0, none⟩) l.length cap) vs) := FL.out.grown hg (fun e => by have e2 := Option.some.inj e; omega)
              have FO : Hid (Ow v_11 B g l.length cap l) := FO.out.kept hg (fun e => by have e2 := Option.some.inj e; omega)
              have FG : Hid (w.grownBy v_11 (some lb)) := gr_new FG.out hg (by omega)
              have FA : Hid (Own v_11 eb (.slice (some ⟨g3, 0, none⟩) ((l.eraseIdx k)).length c3) ((l.eraseIdx k))) := ho
              have lg3 : eb ≤ g3 := (FA.out.lt g3 rfl).1
              rw [List.nil_append]
              clear ho hg
              have ml := FL.out.c0
              refine hK.out _ _ (by (try dsimp only); first | exact ml | go_keep) (fun hHeld => ?_)
              clear hK K
              try simp only [Act.put, List.getElem_toArray, List.getElem_cons_succ, List.getElem_cons_zero, List.setIfInBounds_toArray, List.set_cons_zero, List.set_cons_succ]
              refine wpAnyH_ready (rs := [13]) (by kernel_rfl) (by simp) ?_
              refine (AllReadyH.cons rfl (fun K hK => ?_) AllReadyH.nil)
              refine step_of rfl ?_
              go_simp
              obtain ⟨nb, hnb⟩ : ∃ nb, nb = v_11.heap.size := ⟨_, rfl⟩
              have lnb0 := F0.out.lt
              have lnb1 := FL.out.lt
              have lnb2 := FG.out.size
              rw [← hnb] at lnb0 lnb1 lnb2
              first | (have lx_ := (FE.out.lt eb rfl).2; rw [← hnb] at lx_) | skip
              obtain ⟨v_12, hw2⟩ : ∃ v_12, v_12 = v_11.alloc (.cells #[.int .i64 nx, .int .i64 f, .int .i64 t, .int .i64 sh, .int .i64 ca, .int .i64 0, .int .i64 0] 89) := ⟨_, rfl⟩
              have F0 : Hid (HAt v_12 w.heap.size h) := by rw [hw2]; exact F0.out.alloc _
              have FL : Hid (LWo v_12 lb lo nx (.slice (some ⟨g, 0, none⟩) l.length cap) vs) := by rw [hw2]; exact FL.out.alloc _
              have FO : Hid (Ow v_12 B g l.length cap l) := by rw [hw2]; exact FO.out.alloc _
              have FG : Hid (w.grownBy v_12 (some lb)) := by rw [hw2]; exact grown_trans FG.out (grown_new _ _ _)
              have FA : Hid (Own v_12 eb (.slice (some ⟨g3, 0, none⟩) ((l.eraseIdx k)).length c3) ((l.eraseIdx k))) := by rw [hw2]; exact FA.out.alloc _
              have FN : Hid (P7 v_12 nb 0 (⟨nx, f, t, sh, ca, 0, 0⟩ : Pe)) := by rw [hw2]; exact P7.at_ v_11 (⟨nx, f, t, sh, ca, 0, 0⟩ : Pe) _ _ hnb
              rw [← hw2, ← hnb]
              clear hw2 hnb
              have ml := FL.out.c0
              refine hK.out _ _ (by (try dsimp only); first | exact ml | go_keep) (fun hHeld => ?_)
              clear hK K
              try simp only [Act.put, List.getElem_toArray, List.getElem_cons_succ, List.getElem_cons_zero, List.setIfInBounds_toArray, List.set_cons_zero, List.set_cons_succ]
              refine wpAnyH_ready (rs := [14]) (by kernel_rfl) (by simp) ?_
              refine (AllReadyH.cons rfl (fun K hK => ?_) AllReadyH.nil)
              refine step_of rfl ?_
              refine wp_append_pe eb g3 ((l.eraseIdx k)).length c3 (l.eraseIdx k) [(⟨nx, f, t, sh, ca, 0, 0⟩ : Pe)] rfl FA.out ⟨nb, 0, none⟩ 1 rfl (fun _ => ⟨nb, 0, rfl, fun i p hp => by cases i with | zero => (simp at hp; subst hp; exact FN.out) | succ i => simp at hp⟩) (by have := LEE.out; (try simp only [List.length_nil, List.length_append, List.length_cons]); omega) (by have := (FA.out.lt g3 rfl).2; omega) ?_
              intro g4 c4 v_13 ho hg
              rw [show ((l.eraseIdx k) ++ [(⟨nx, f, t, sh, ca, 0, 0⟩ : Pe)]).length = ((l.eraseIdx k)).length + 1 from by rw [List.length_append]; rfl] at ho ⊢
              have F0 : Hid (HAt v_13 w.heap.size h) := F0.out.grown hg (fun e => by have e2 := Option.some.inj e; omega)
              have FL : Hid (LWo v_13 lb lo nx (.slice (some ⟨g, 0, none⟩) l.length cap) vs) := FL.out.grown hg (fun e => by have e2 := Option.some.inj e; omega)
              have FO : Hid (Ow v_13 B g l.length cap l) := FO.out.kept hg (fun e => by have e2 := Option.some.inj e; omega)
              have FG : Hid (w.grownBy v_13 (some lb)) := gr_new FG.out hg (by omega)
              have FZ : Hid (Own v_13 eb (.slice (some ⟨g4, 0, none⟩) (((l.eraseIdx k)).length + 1) c4) ((l.eraseIdx k) ++ [(⟨nx, f, t, sh, ca, 0, 0⟩ : Pe)])) := ho
              have lg4 : eb ≤ g4 := (FZ.out.lt g4 rfl).1
              clear ho hg
              have ml := FL.out.c0
              refine hK.out _ _ (by (try dsimp only); first | exact ml | go_keep) (fun hHeld => ?_)
              clear hK K
              try simp only [Act.put, List.getElem_toArray, List.getElem_cons_succ, List.getElem_cons_zero, List.setIfInBounds_toArray, List.set_cons_zero, List.set_cons_succ]
              refine tkz 15 rfl ?_
              refine tkz 16 rfl ?_
              refine wpAnyH_ready (rs := [17]) (by kernel_rfl) (by simp) ?_
              refine (AllReadyH.cons rfl (fun K hK => ?_) AllReadyH.nil)
              obtain ⟨k0, k1, k2, k3, -, -, -⟩ := FL.out
              go_simp
              obtain ⟨v_14, hw2⟩ : ∃ v_14, v_14 = v_13.setCell ⟨lb, lo + 1, none⟩ (.slice (some ⟨g4, 0, none⟩) (((l.eraseIdx k)).length + 1) c4) := ⟨_, rfl⟩
              change K _ (v_13.setCell ⟨lb, lo + 1, none⟩ (.slice (some ⟨g4, 0, none⟩) (((l.eraseIdx k)).length + 1) c4))
              rw [← hw2]
              clear k0 k1 k2 k3
              have FL : Hid (LWo v_14 lb lo nx (.slice (some ⟨g4, 0, none⟩) (((l.eraseIdx k)).length + 1) c4) (vs.set (lo + 1) (.slice (some ⟨g4, 0, none⟩) (((l.eraseIdx k)).length + 1) c4))) := by rw [hw2]; exact FL.out.set1 _
              have FG : Hid (w.grownBy v_14 (some lb)) := by rw [hw2]; exact grown_trans FG.out (grown_set1 _ lb _ _)
              have FZ : Hid (Own v_14 eb (.slice (some ⟨g4, 0, none⟩) (((l.eraseIdx k)).length + 1) c4) ((l.eraseIdx k) ++ [(⟨nx, f, t, sh, ca, 0, 0⟩ : Pe)])) := by rw [hw2]; exact FZ.out.other (fun e => by have e2 := Option.some.inj e; simp at e2; omega) _
              clear hw2
              have ml := FL.out.c0
              refine hK.out _ _ (by (try dsimp only); first | exact ml | go_keep) (fun hHeld => ?_)
              clear hK K
              try simp only [Act.put, List.getElem_toArray, List.getElem_cons_succ, List.getElem_cons_zero, List.setIfInBounds_toArray, List.set_cons_zero, List.set_cons_succ]
              refine wpAnyH_done (by kernel_rfl) ?_ _
              go_upto_region 20 with fail
              obtain ⟨k0, k1, k2, k3, -, -, -⟩ := FL.out
              have ex : IntKind.i64.wrap (nx + 1) = nx + 1 := IntWalk.i64_in _ (by omega)
              go_wp2_with fail
              go_ret
              exact ⟨rfl, .slice (some ⟨g4, 0, none⟩) (((l.eraseIdx k)).length + 1) c4, (by first | exact FL.out.set0 _ | (rw [if_pos rfl, if_pos rfl]; exact FL.out.set0 _)), by (have q := (FZ.out.base (show B ≤ eb by omega)).other (p := ⟨lb, lo, none⟩) (fun e => by have e2 := Option.some.inj e; simp at e2; omega) (.int .i64 (nx + 1))); first | (rw [HF.out]; exact q) | (rw [if_pos rfl, HF.out]; exact q), (fun e => by have e2 := Option.some.inj e; simp at e2; omega), grown_trans FG.out (grown_set1 _ lb _ _)⟩
            · refine step_of rfl ?_
              go_simp
              obtain ⟨nb, hnb⟩ : ∃ nb, nb = v_10.heap.size := ⟨_, rfl⟩
              have lnb0 := F0.out.lt
              have lnb1 := FL.out.lt
              have lnb2 := FG.out.size
              rw [← hnb] at lnb0 lnb1 lnb2
              first | (have lx_ := (FE.out.lt eb rfl).2; rw [← hnb] at lx_) | skip
              obtain ⟨v_15, hw2⟩ : ∃ v_15, v_15 = v_10.alloc (.cells #[.int .i64 nx, .int .i64 f, .int .i64 t, .int .i64 sh, .int .i64 ca, .int .i64 0, .int .i64 0] 89) := ⟨_, rfl⟩
              have F0 : Hid (HAt v_15 w.heap.size h) := by rw [hw2]; exact F0.out.alloc _
              have FL : Hid (LWo v_15 lb lo nx (.slice (some ⟨g, 0, none⟩) l.length cap) vs) := by rw [hw2]; exact FL.out.alloc _
              have FO : Hid (Ow v_15 B g l.length cap l) := by rw [hw2]; exact FO.out.alloc _
              have FG : Hid (w.grownBy v_15 (some lb)) := by rw [hw2]; exact grown_trans FG.out (grown_new _ _ _)
              have FQ : Hid (Own v_15 ea (.slice (some ⟨g2, 0, none⟩) (l.eraseIdx k).length c2) (l.eraseIdx k)) := by rw [hw2]; exact FQ.out.alloc _
              have FE : Hid (Own v_15 eb (.slice (some ⟨eb, 0, none⟩) 0 0) []) := by rw [hw2]; exact FE.out.alloc _
              have FN : Hid (P7 v_15 nb 0 (⟨nx, f, t, sh, ca, 0, 0⟩ : Pe)) := by rw [hw2]; exact P7.at_ v_10 (⟨nx, f, t, sh, ca, 0, 0⟩ : Pe) _ _ hnb
              rw [← hw2, ← hnb]
              clear hw2 hnb
              have ml := FL.out.c0
              refine hK.out _ _ (by (try dsimp only); first | exact ml | go_keep) (fun hHeld => ?_)
              clear hK K
              try simp only [Act.put, List.getElem_toArray, List.getElem_cons_succ, List.getElem_cons_zero, List.setIfInBounds_toArray, List.set_cons_zero, List.set_cons_succ]
              refine wpAnyH_ready (rs := [3]) (by kernel_rfl) (by simp) ?_
              refine (AllReadyH.cons rfl (fun K hK => ?_) AllReadyH.nil)
              refine step_of rfl ?_
              refine wp_append_pe eb eb 0 0 [] (l.eraseIdx k) rfl FE.out ⟨g2, 0, none⟩ c2 rfl (fun hpos => ⟨g2, 0, rfl, fun i p hp => by rw [Nat.zero_add]; exact FQ.out.ow.p7 hp⟩) (by have := LEE.out; (try simp only [List.length_nil, List.length_append, List.length_cons]); omega) (Nat.le_of_lt ((FE.out.lt eb rfl).2)) ?_
              intro g3 c3 v_16 ho hg
              rw [List.nil_append] at ho
              have F0 : Hid (HAt v_16 w.heap.size h) := F0.out.grown hg (fun e => by have e2 := Option.some.inj e; omega)
              have FL : Hid (LWo v_16 lb lo nx (.slice (some ⟨g, 0, none⟩) l.length cap) vs) := FL.out.grown hg (fun e => by have e2 := Option.some.inj e; omega)
              have FO : Hid (Ow v_16 B g l.length cap l) := FO.out.kept hg (fun e => by have e2 := Option.some.inj e; omega)
              have FG : Hid (w.grownBy v_16 (some lb)) := gr_new FG.out hg (by omega)
              have FN : Hid (P7 v_16 nb 0 (⟨nx, f, t, sh, ca, 0, 0⟩ : Pe)) := FN.out.grew hg (fun e => by have e2 := Option.some.inj e; omega)
              have FA : Hid (Own v_16 eb (.slice (some ⟨g3, 0, none⟩) ((l.eraseIdx k)).length c3) ((l.eraseIdx k))) := ho
              have lg3 : eb ≤ g3 := (FA.out.lt g3 rfl).1
              rw [List.nil_append]
              clear ho hg
              have ml := FL.out.c0
              refine hK.out _ _ (by (try dsimp only); first | exact ml | go_keep) (fun hHeld => ?_)
              clear hK K
              try simp only [Act.put, List.getElem_toArray, List.getElem_cons_succ, List.getElem_cons_zero, List.setIfInBounds_toArray, List.set_cons_zero, List.set_cons_succ]
              refine wpAnyH_ready (rs := [14]) (by kernel_rfl) (by simp) ?_
              refine (AllReadyH.cons rfl (fun K hK => ?_) AllReadyH.nil)
              refine step_of rfl ?_
              refine wp_append_pe eb g3 ((l.eraseIdx k)).length c3 (l.eraseIdx k) [(⟨nx, f, t, sh, ca, 0, 0⟩ : Pe)] rfl FA.out ⟨nb, 0, none⟩ 1 rfl (fun _ => ⟨nb, 0, rfl, fun i p hp => by cases i with | zero => (simp at hp; subst hp; exact FN.out) | succ i => simp at hp⟩) (by have := LEE.out; (try simp only [List.length_nil, List.length_append, List.length_cons]); omega) (by have := (FA.out.lt g3 rfl).2; omega) ?_
              intro g4 c4 v_17 ho hg
              rw [show ((l.eraseIdx k) ++ [(⟨nx, f, t, sh, ca, 0, 0⟩ : Pe)]).length = ((l.eraseIdx k)).length + 1 from by rw [List.length_append]; rfl] at ho ⊢
              have F0 : Hid (HAt v_17 w.heap.size h) := F0.out.grown hg (fun e => by have e2 := Option.some.inj e; omega)
              have FL : Hid (LWo v_17 lb lo nx (.slice (some ⟨g, 0, none⟩) l.length cap) vs) := FL.out.grown hg (fun e => by have e2 := Option.some.inj e; omega)
              have FO : Hid (Ow v_17 B g l.length cap l) := FO.out.kept hg (fun e => by have e2 := Option.some.inj e; omega)
              have FG : Hid (w.grownBy v_17 (some lb)) := gr_new FG.out hg (by omega)
              have FZ : Hid (Own v_17 eb (.slice (some ⟨g4, 0, none⟩) (((l.eraseIdx k)).length + 1) c4) ((l.eraseIdx k) ++ [(⟨nx, f, t, sh, ca, 0, 0⟩ : Pe)])) := ho
              have lg4 : eb ≤ g4 := (FZ.out.lt g4 rfl).1
              clear ho hg
              have ml := FL.out.c0
              refine hK.out _ _ (by (try dsimp only); first | exact ml | go_keep) (fun hHeld => ?_)
              clear hK K
              try simp only [Act.put, List.getElem_toArray, List.getElem_cons_succ, List.getElem_cons_zero, List.setIfInBounds_toArray, List.set_cons_zero, List.set_cons_succ]
              refine tkz 15 rfl ?_
              refine tkz 16 rfl ?_
              refine wpAnyH_ready (rs := [17]) (by kernel_rfl) (by simp) ?_
              refine (AllReadyH.cons rfl (fun K hK => ?_) AllReadyH.nil)
              obtain ⟨k0, k1, k2, k3, -, -, -⟩ := FL.out
              go_simp
              obtain ⟨v_18, hw2⟩ : ∃ v_18, v_18 = v_17.setCell ⟨lb, lo + 1, none⟩ (.slice (some ⟨g4, 0, none⟩) (((l.eraseIdx k)).length + 1) c4) := ⟨_, rfl⟩
              change K _ (v_17.setCell ⟨lb, lo + 1, none⟩ (.slice (some ⟨g4, 0, none⟩) (((l.eraseIdx k)).length + 1) c4))
              rw [← hw2]
              clear k0 k1 k2 k3
              have FL : Hid (LWo v_18 lb lo nx (.slice (some ⟨g4, 0, none⟩) (((l.eraseIdx k)).length + 1) c4) (vs.set (lo + 1) (.slice (some ⟨g4, 0, none⟩) (((l.eraseIdx k)).length + 1) c4))) := by rw [hw2]; exact FL.out.set1 _
              have FG : Hid (w.grownBy v_18 (some lb)) := by rw [hw2]; exact grown_trans FG.out (grown_set1 _ lb _ _)
              have FZ : Hid (Own v_18 eb (.slice (some ⟨g4, 0, none⟩) (((l.eraseIdx k)).length + 1) c4) ((l.eraseIdx k) ++ [(⟨nx, f, t, sh, ca, 0, 0⟩ : Pe)])) := by rw [hw2]; exact FZ.out.other (fun e => by have e2 := Option.some.inj e; simp at e2; omega) _
              clear hw2
              have ml := FL.out.c0
              refine hK.out _ _ (by (try dsimp only); first | exact ml | go_keep) (fun hHeld => ?_)
              clear hK K
              try simp only [Act.put, List.getElem_toArray, List.getElem_cons_succ, List.getElem_cons_zero, List.setIfInBounds_toArray, List.set_cons_zero, List.set_cons_succ]
              refine wpAnyH_done (by kernel_rfl) ?_ _
              go_upto_region 20 with fail
              obtain ⟨k0, k1, k2, k3, -, -, -⟩ := FL.out
              have ex : IntKind.i64.wrap (nx + 1) = nx + 1 := IntWalk.i64_in _ (by omega)
              go_wp2_with fail
              go_ret
              exact ⟨rfl, .slice (some ⟨g4, 0, none⟩) (((l.eraseIdx k)).length + 1) c4, (by first | exact FL.out.set0 _ | (rw [if_pos rfl, if_pos rfl]; exact FL.out.set0 _)), by (have q := (FZ.out.base (show B ≤ eb by omega)).other (p := ⟨lb, lo, none⟩) (fun e => by have e2 := Option.some.inj e; simp at e2; omega) (.int .i64 (nx + 1))); first | (rw [HF.out]; exact q) | (rw [if_pos rfl, HF.out]; exact q), (fun e => by have e2 := Option.some.inj e; simp at e2; omega), grown_trans FG.out (grown_set1 _ lb _ _)⟩
          · refine step_of rfl ?_
            go_simp
            obtain ⟨nb, hnb⟩ : ∃ nb, nb = v_9.heap.size := ⟨_, rfl⟩
            have lnb0 := F0.out.lt
            have lnb1 := FL.out.lt
            have lnb2 := FG.out.size
            rw [← hnb] at lnb0 lnb1 lnb2
            first | (have lx_ := (FE.out.lt eb rfl).2; rw [← hnb] at lx_) | skip
            obtain ⟨v_19, hw2⟩ : ∃ v_19, v_19 = v_9.alloc (.cells #[.int .i64 nx, .int .i64 f, .int .i64 t, .int .i64 sh, .int .i64 ca, .int .i64 0, .int .i64 0] 89) := ⟨_, rfl⟩
            have F0 : Hid (HAt v_19 w.heap.size h) := by rw [hw2]; exact F0.out.alloc _
            have FL : Hid (LWo v_19 lb lo nx (.slice (some ⟨g, 0, none⟩) l.length cap) vs) := by rw [hw2]; exact FL.out.alloc _
            have FO : Hid (Ow v_19 B g l.length cap l) := by rw [hw2]; exact FO.out.alloc _
            have FG : Hid (w.grownBy v_19 (some lb)) := by rw [hw2]; exact grown_trans FG.out (grown_new _ _ _)
            have FQ : Hid (Own v_19 ea (.slice (some ⟨g2, 0, none⟩) (l.eraseIdx k).length c2) (l.eraseIdx k)) := by rw [hw2]; exact FQ.out.alloc _
            have FN : Hid (P7 v_19 nb 0 (⟨nx, f, t, sh, ca, 0, 0⟩ : Pe)) := by rw [hw2]; exact P7.at_ v_9 (⟨nx, f, t, sh, ca, 0, 0⟩ : Pe) _ _ hnb
            rw [← hw2, ← hnb]
            clear hw2 hnb
            have ml := FL.out.c0
            refine hK.out _ _ (by (try dsimp only); first | exact ml | go_keep) (fun hHeld => ?_)
            clear hK K
            try simp only [Act.put, List.getElem_toArray, List.getElem_cons_succ, List.getElem_cons_zero, List.setIfInBounds_toArray, List.set_cons_zero, List.set_cons_succ]
            refine wpAnyH_ready (rs := [1]) (by kernel_rfl) (by simp) ?_
            refine (AllReadyH.cons rfl (fun K hK => ?_) AllReadyH.nil)
            refine step_of rfl ?_
            go_simp
            obtain ⟨eb, heb⟩ : ∃ eb, eb = v_19.heap.size := ⟨_, rfl⟩
            have leb0 := F0.out.lt
            have leb1 := FL.out.lt
            have leb2 := FG.out.size
            rw [← heb] at leb0 leb1 leb2
            first | (have ly_ := FN.out.lt; rw [← heb] at ly_) | skip
            obtain ⟨v_20, hw2⟩ : ∃ v_20, v_20 = v_19.alloc (.cells #[] 89) := ⟨_, rfl⟩
            have F0 : Hid (HAt v_20 w.heap.size h) := by rw [hw2]; exact F0.out.alloc _
            have FL : Hid (LWo v_20 lb lo nx (.slice (some ⟨g, 0, none⟩) l.length cap) vs) := by rw [hw2]; exact FL.out.alloc _
            have FO : Hid (Ow v_20 B g l.length cap l) := by rw [hw2]; exact FO.out.alloc _
            have FG : Hid (w.grownBy v_20 (some lb)) := by rw [hw2]; exact grown_trans FG.out (grown_new _ _ _)
            have FQ : Hid (Own v_20 ea (.slice (some ⟨g2, 0, none⟩) (l.eraseIdx k).length c2) (l.eraseIdx k)) := by rw [hw2]; exact FQ.out.alloc _
            have FN : Hid (P7 v_20 nb 0 (⟨nx, f, t, sh, ca, 0, 0⟩ : Pe)) := by rw [hw2]; exact FN.out.alloc _
            have FE : Hid (Own v_20 eb (.slice (some ⟨eb, 0, none⟩) 0 0) []) := by rw [hw2, heb]; exact own_empty v_19 _ (Nat.le_refl _)
            rw [← hw2, ← heb]
            clear hw2 heb
            have ml := FL.out.c0
            refine hK.out _ _ (by (try dsimp only); first | exact ml | go_keep) (fun hHeld => ?_)
            clear hK K
            try simp only [Act.put, List.getElem_toArray, List.getElem_cons_succ, List.getElem_cons_zero, List.setIfInBounds_toArray, List.set_cons_zero, List.set_cons_succ]
            refine wpAnyH_ready (rs := [3]) (by kernel_rfl) (by simp) ?_
            refine (AllReadyH.cons rfl (fun K hK => ?_) AllReadyH.nil)
            refine step_of rfl ?_
            refine wp_append_pe eb eb 0 0 [] (l.eraseIdx k) rfl FE.out ⟨g2, 0, none⟩ c2 rfl (fun hpos => ⟨g2, 0, rfl, fun i p hp => by rw [Nat.zero_add]; exact FQ.out.ow.p7 hp⟩) (by have := LEE.out; (try simp only [List.length_nil, List.length_append, List.length_cons]); omega) (Nat.le_of_lt ((FE.out.lt eb rfl).2)) ?_
            intro g3 c3 v_21 ho hg
            rw [List.nil_append] at ho
            have F0 : Hid (HAt v_21 w.heap.size h) := F0.out.grown hg (fun e => by have e2 := Option.some.inj e; omega)
            have FL : Hid (LWo v_21 lb lo nx (.slice (some ⟨g, 0, none⟩) l.length cap) vs) := FL.out.grown hg (fun e => by have e2 := Option.some.inj e; omega)
            have FO : Hid (Ow v_21 B g l.length cap l) := FO.out.kept hg (fun e => by have e2 := Option.some.inj e; omega)
            have FG : Hid (w.grownBy v_21 (some lb)) := gr_new FG.out hg (by omega)
            have FN : Hid (P7 v_21 nb 0 (⟨nx, f, t, sh, ca, 0, 0⟩ : Pe)) := FN.out.grew hg (fun e => by have e2 := Option.some.inj e; omega)
            have FA : Hid (Own v_21 eb (.slice (some ⟨g3, 0, none⟩) ((l.eraseIdx k)).length c3) ((l.eraseIdx k))) := ho
            have lg3 : eb ≤ g3 := (FA.out.lt g3 rfl).1
            rw [List.nil_append]
            clear ho hg
            have ml := FL.out.c0
            refine hK.out _ _ (by (try dsimp only); first | exact ml | go_keep) (fun hHeld => ?_)
            clear hK K
            try simp only [Act.put, List.getElem_toArray, List.getElem_cons_succ, List.getElem_cons_zero, List.setIfInBounds_toArray, List.set_cons_zero, List.set_cons_succ]
            refine wpAnyH_ready (rs := [14]) (by kernel_rfl) (by simp) ?_
            refine (AllReadyH.cons rfl (fun K hK => ?_) AllReadyH.nil)
            refine step_of rfl ?_
            refine wp_append_pe eb g3 ((l.eraseIdx k)).length c3 (l.eraseIdx k) [(⟨nx, f, t, sh, ca, 0, 0⟩ : Pe)] rfl FA.out ⟨nb, 0, none⟩ 1 rfl (fun _ => ⟨nb, 0, rfl, fun i p hp => by cases i with | zero => (simp at hp; subst hp; exact FN.out) | succ i => simp at hp⟩) (by have := LEE.out; (try simp only [List.length_nil, List.length_append, List.length_cons]); omega) (by have := (FA.out.lt g3 rfl).2; omega) ?_
            intro g4 c4 v_22 ho hg
            rw [show ((l.eraseIdx k) ++ [(⟨nx, f, t, sh, ca, 0, 0⟩ : Pe)]).length = ((l.eraseIdx k)).length + 1 from by rw [List.length_append]; rfl] at ho ⊢
            have F0 : Hid (HAt v_22 w.heap.size h) := F0.out.grown hg (fun e => by have e2 := Option.some.inj e; omega)
            have FL : Hid (LWo v_22 lb lo nx (.slice (some ⟨g, 0, none⟩) l.length cap) vs) := FL.out.grown hg (fun e => by have e2 := Option.some.inj e; omega)
            have FO : Hid (Ow v_22 B g l.length cap l) := FO.out.kept hg (fun e => by have e2 := Option.some.inj e; omega)
            have FG : Hid (w.grownBy v_22 (some lb)) := gr_new FG.out hg (by omega)
            have FZ : Hid (Own v_22 eb (.slice (some ⟨g4, 0, none⟩) (((l.eraseIdx k)).length + 1) c4) ((l.eraseIdx k) ++ [(⟨nx, f, t, sh, ca, 0, 0⟩ : Pe)])) := ho
            have lg4 : eb ≤ g4 := (FZ.out.lt g4 rfl).1
            clear ho hg
            have ml := FL.out.c0
            refine hK.out _ _ (by (try dsimp only); first | exact ml | go_keep) (fun hHeld => ?_)
            clear hK K
            try simp only [Act.put, List.getElem_toArray, List.getElem_cons_succ, List.getElem_cons_zero, List.setIfInBounds_toArray, List.set_cons_zero, List.set_cons_succ]
            refine tkz 15 rfl ?_
            refine tkz 16 rfl ?_
            refine wpAnyH_ready (rs := [17]) (by kernel_rfl) (by simp) ?_
            refine (AllReadyH.cons rfl (fun K hK => ?_) AllReadyH.nil)
            obtain ⟨k0, k1, k2, k3, -, -, -⟩ := FL.out
            go_simp
            obtain ⟨v_23, hw2⟩ : ∃ v_23, v_23 = v_22.setCell ⟨lb, lo + 1, none⟩ (.slice (some ⟨g4, 0, none⟩) (((l.eraseIdx k)).length + 1) c4) := ⟨_, rfl⟩
            change K _ (v_22.setCell ⟨lb, lo + 1, none⟩ (.slice (some ⟨g4, 0, none⟩) (((l.eraseIdx k)).length + 1) c4))
            rw [← hw2]
            clear k0 k1 k2 k3
            have FL : Hid (LWo v_23 lb lo nx (.slice (some ⟨g4, 0, none⟩) (((l.eraseIdx k)).length + 1) c4) (vs.set (lo + 1) (.slice (some ⟨g4, 0, none⟩) (((l.eraseIdx k)).length + 1) c4))) := by rw [hw2]; exact FL.out.set1 _
            have FG : Hid (w.grownBy v_23 (some lb)) := by rw [hw2]; exact grown_trans FG.out (grown_set1 _ lb _ _)
            have FZ : Hid (Own v_23 eb (.slice (some ⟨g4, 0, none⟩) (((l.eraseIdx k)).length + 1) c4) ((l.eraseIdx k) ++ [(⟨nx, f, t, sh, ca, 0, 0⟩ : Pe)])) := by rw [hw2]; exact FZ.out.other (fun e => by have e2 := Option.some.inj e; simp at e2; omega) _
            clear hw2
            have ml := FL.out.c0
            refine hK.out _ _ (by (try dsimp only); first | exact ml | go_keep) (fun hHeld => ?_)
            clear hK K
            try simp only [Act.put, List.getElem_toArray, List.getElem_cons_succ, List.getElem_cons_zero, List.setIfInBounds_toArray, List.set_cons_zero, List.set_cons_succ]
            refine wpAnyH_done (by kernel_rfl) ?_ _
            go_upto_region 20 with fail
            obtain ⟨k0, k1, k2, k3, -, -, -⟩ := FL.out
            have ex : IntKind.i64.wrap (nx + 1) = nx + 1 := IntWalk.i64_in _ (by omega)
            go_wp2_with fail
            go_ret
            exact ⟨rfl, .slice (some ⟨g4, 0, none⟩) (((l.eraseIdx k)).length + 1) c4, (by first | exact FL.out.set0 _ | (rw [if_pos rfl, if_pos rfl]; exact FL.out.set0 _)), by (have q := (FZ.out.base (show B ≤ eb by omega)).other (p := ⟨lb, lo, none⟩) (fun e => by have e2 := Option.some.inj e; simp at e2; omega) (.int .i64 (nx + 1))); first | (rw [HF.out]; exact q) | (rw [if_pos rfl, HF.out]; exact q), (fun e => by have e2 := Option.some.inj e; simp at e2; omega), grown_trans FG.out (grown_set1 _ lb _ _)⟩
      · rw [if_neg (by omega)] at hK
        subst hK
        have HF : Hid (freeL l ++ [(⟨nx, f, t, sh, ca, 0, 0⟩ : Pe)] = l ++ [(⟨nx, f, t, sh, ca, 0, 0⟩ : Pe)]) := by unfold freeL; rw [if_neg (by omega)]; exact rfl
        have b60 : decide ((60 : Int) ≤ (l.length : Int)) = false := decide_eq_false (by omega)
        clear km
        go_upto_region 19 with fail
        obtain ⟨wq, hwq⟩ : ∃ wq, wq = wr := ⟨_, rfl⟩
        subst hwq
        have F0 : Hid (HAt wq.drew w.heap.size h) := F0.out.below (Below.refl _ _).drew F0.out.lt
        have FL : Hid (LWo wq.drew lb lo nx (.slice (some ⟨g, 0, none⟩) l.length cap) vs) := FL.out.below (Below.refl _ _).drew FL.out.lt
        have FO : Hid (Ow wq.drew B g l.length cap l) := FO.out.below (Below.refl _ _).drew FO.out.lt
        have FG : Hid (w.grownBy wq.drew (some lb)) := gr_drew FG.out
        have ml := FL.out.c0
        refine wp_region_held_drew (S := (fun w'' => w''.cell? ⟨lb, lo, none⟩ = some (.int .i64 nx))) (by kernel_rfl) (by (try dsimp only); first | exact ml | go_keep) (fun hHeld => ?_)
        obtain ⟨v_24, hw1⟩ : ∃ v_24, v_24 = wq.drew := ⟨_, rfl⟩
        have F0 : Hid (HAt v_24 w.heap.size h) := by rw [hw1]; exact F0.out
        have FL : Hid (LWo v_24 lb lo nx (.slice (some ⟨g, 0, none⟩) l.length cap) vs) := by rw [hw1]; exact FL.out
        have FO : Hid (Ow v_24 B g l.length cap l) := by rw [hw1]; exact FO.out
        have FG : Hid (w.grownBy v_24 (some lb)) := by rw [hw1]; exact FG.out
        rw [← hw1] at hHeld ⊢
        clear hw1
        have ml := FL.out.c0
        refine tkz 0 rfl ?_
        refine tkz 2 rfl ?_
        refine tkz 4 rfl ?_
        refine tkz 5 rfl ?_
        refine tkz 6 rfl ?_
        refine tkz 7 rfl ?_
        refine tkz 8 rfl ?_
        refine tkz 9 rfl ?_
        refine tkz 10 rfl ?_
        refine tkz 11 rfl ?_
        refine tkz 12 rfl ?_
        refine wpAnyH_ready (rs := [1, 13]) (by kernel_rfl) (by simp) ?_
        refine (AllReadyH.cons rfl (fun K hK => ?_) (AllReadyH.cons rfl (fun K hK => ?_) AllReadyH.nil))
        · refine step_of rfl ?_
          go_simp
          obtain ⟨eb, heb⟩ : ∃ eb, eb = v_24.heap.size := ⟨_, rfl⟩
          have leb0 := F0.out.lt
          have leb1 := FL.out.lt
          have leb2 := FG.out.size
          rw [← heb] at leb0 leb1 leb2
          first | (have ly_ := FN.out.lt; rw [← heb] at ly_) | skip
          obtain ⟨v_25, hw2⟩ : ∃ v_25, v_25 = v_24.alloc (.cells #[] 89) := ⟨_, rfl⟩
          have F0 : Hid (HAt v_25 w.heap.size h) := by rw [hw2]; exact F0.out.alloc _
          have FL : Hid (LWo v_25 lb lo nx (.slice (some ⟨g, 0, none⟩) l.length cap) vs) := by rw [hw2]; exact FL.out.alloc _
          have FO : Hid (Ow v_25 B g l.length cap l) := by rw [hw2]; exact FO.out.alloc _
          have FG : Hid (w.grownBy v_25 (some lb)) := by rw [hw2]; exact grown_trans FG.out (grown_new _ _ _)
          have FE : Hid (Own v_25 eb (.slice (some ⟨eb, 0, none⟩) 0 0) []) := by rw [hw2, heb]; exact own_empty v_24 _ (Nat.le_refl _)
          rw [← hw2, ← heb]
          clear hw2 heb
          have ml := FL.out.c0
          refine hK.out _ _ (by (try dsimp only); first | exact ml | go_keep) (fun hHeld => ?_)
          clear hK K
          try simp only [Act.put, List.getElem_toArray, List.getElem_cons_succ, List.getElem_cons_zero, List.setIfInBounds_toArray, List.set_cons_zero, List.set_cons_succ]
          refine wpAnyH_ready (rs := [3, 13]) (by kernel_rfl) (by simp) ?_
          refine (AllReadyH.cons rfl (fun K hK => ?_) (AllReadyH.cons rfl (fun K hK => ?_) AllReadyH.nil))
          · refine step_of rfl ?_
            refine wp_append_pe eb eb 0 0 [] l rfl FE.out ⟨g, 0, none⟩ cap rfl (fun hpos => ⟨g, 0, rfl, fun i p hp => by rw [Nat.zero_add]; exact FO.out.p7 hp⟩) (by simp <;> omega) (Nat.le_of_lt ((FE.out.lt eb rfl).2)) ?_
            intro g3 c3 v_26 ho hg
            rw [List.nil_append] at ho
            have F0 : Hid (HAt v_26 w.heap.size h) := F0.out.grown hg (fun e => by have e2 := Option.some.inj e; omega)
            have FL : Hid (LWo v_26 lb lo nx (.slice (some ⟨g, 0, none⟩) l.length cap) vs) := FL.out.grown hg (fun e => by have e2 := Option.some.inj e; omega)
            have FO : Hid (Ow v_26 B g l.length cap l) := FO.out.kept hg (fun e => by have e2 := Option.some.inj e; omega)
            have FG : Hid (w.grownBy v_26 (some lb)) := gr_new FG.out hg (by omega)
            have FA : Hid (Own v_26 eb (.slice (some ⟨g3, 0, none⟩) (l).length c3) (l)) := ho
            have lg3 : eb ≤ g3 := (FA.out.lt g3 rfl).1
            rw [List.nil_append]
            clear ho hg
            have ml := FL.out.c0
            refine hK.out _ _ (by (try dsimp only); first | exact ml | go_keep) (fun hHeld => ?_)
            clear hK K
            try simp only [Act.put, List.getElem_toArray, List.getElem_cons_succ, List.getElem_cons_zero, List.setIfInBounds_toArray, List.set_cons_zero, List.set_cons_succ]
            refine wpAnyH_ready (rs := [13]) (by kernel_rfl) (by simp) ?_
            refine (AllReadyH.cons rfl (fun K hK => ?_) AllReadyH.nil)
            refine step_of rfl ?_
            go_simp
            obtain ⟨nb, hnb⟩ : ∃ nb, nb = v_26.heap.size := ⟨_, rfl⟩
            have lnb0 := F0.out.lt
            have lnb1 := FL.out.lt
            have lnb2 := FG.out.size
            rw [← hnb] at lnb0 lnb1 lnb2
            first | (have lx_ := (FE.out.lt eb rfl).2; rw [← hnb] at lx_) | skip
            obtain ⟨v_27, hw2⟩ : ∃ v_27, v_27 = v_26.alloc (.cells #[.int .i64 nx, .int .i64 f, .int .i64 t, .int .i64 sh, .int .i64 ca, .int .i64 0, .int .i64 0] 89) := ⟨_, rfl⟩
            have F0 : Hid (HAt v_27 w.heap.size h) := by rw [hw2]; exact F0.out.alloc _
            have FL : Hid (LWo v_27 lb lo nx (.slice (some ⟨g, 0, none⟩) l.length cap) vs) := by rw [hw2]; exact FL.out.alloc _
            have FO : Hid (Ow v_27 B g l.length cap l) := by rw [hw2]; exact FO.out.alloc _
            have FG : Hid (w.grownBy v_27 (some lb)) := by rw [hw2]; exact grown_trans FG.out (grown_new _ _ _)
            have FA : Hid (Own v_27 eb (.slice (some ⟨g3, 0, none⟩) (l).length c3) (l)) := by rw [hw2]; exact FA.out.alloc _
            have FN : Hid (P7 v_27 nb 0 (⟨nx, f, t, sh, ca, 0, 0⟩ : Pe)) := by rw [hw2]; exact P7.at_ v_26 (⟨nx, f, t, sh, ca, 0, 0⟩ : Pe) _ _ hnb
            rw [← hw2, ← hnb]
            clear hw2 hnb
            have ml := FL.out.c0
            refine hK.out _ _ (by (try dsimp only); first | exact ml | go_keep) (fun hHeld => ?_)
            clear hK K
            try simp only [Act.put, List.getElem_toArray, List.getElem_cons_succ, List.getElem_cons_zero, List.setIfInBounds_toArray, List.set_cons_zero, List.set_cons_succ]
            refine wpAnyH_ready (rs := [14]) (by kernel_rfl) (by simp) ?_
            refine (AllReadyH.cons rfl (fun K hK => ?_) AllReadyH.nil)
            refine step_of rfl ?_
            refine wp_append_pe eb g3 (l).length c3 l [(⟨nx, f, t, sh, ca, 0, 0⟩ : Pe)] rfl FA.out ⟨nb, 0, none⟩ 1 rfl (fun _ => ⟨nb, 0, rfl, fun i p hp => by cases i with | zero => (simp at hp; subst hp; exact FN.out) | succ i => simp at hp⟩) (by simp <;> omega) (by have := (FA.out.lt g3 rfl).2; omega) ?_
            intro g4 c4 v_28 ho hg
            rw [show (l ++ [(⟨nx, f, t, sh, ca, 0, 0⟩ : Pe)]).length = (l).length + 1 from by rw [List.length_append]; rfl] at ho ⊢
            have F0 : Hid (HAt v_28 w.heap.size h) := F0.out.grown hg (fun e => by have e2 := Option.some.inj e; omega)
            have FL : Hid (LWo v_28 lb lo nx (.slice (some ⟨g, 0, none⟩) l.length cap) vs) := FL.out.grown hg (fun e => by have e2 := Option.some.inj e; omega)
            have FO : Hid (Ow v_28 B g l.length cap l) := FO.out.kept hg (fun e => by have e2 := Option.some.inj e; omega)
            have FG : Hid (w.grownBy v_28 (some lb)) := gr_new FG.out hg (by omega)
            have FZ : Hid (Own v_28 eb (.slice (some ⟨g4, 0, none⟩) ((l).length + 1) c4) (l ++ [(⟨nx, f, t, sh, ca, 0, 0⟩ : Pe)])) := ho
            have lg4 : eb ≤ g4 := (FZ.out.lt g4 rfl).1
            clear ho hg
            have ml := FL.out.c0
            refine hK.out _ _ (by (try dsimp only); first | exact ml | go_keep) (fun hHeld => ?_)
            clear hK K
            try simp only [Act.put, List.getElem_toArray, List.getElem_cons_succ, List.getElem_cons_zero, List.setIfInBounds_toArray, List.set_cons_zero, List.set_cons_succ]
            refine tkz 15 rfl ?_
            refine tkz 16 rfl ?_
            refine wpAnyH_ready (rs := [17]) (by kernel_rfl) (by simp) ?_
            refine (AllReadyH.cons rfl (fun K hK => ?_) AllReadyH.nil)
            obtain ⟨k0, k1, k2, k3, -, -, -⟩ := FL.out
            go_simp
            obtain ⟨v_29, hw2⟩ : ∃ v_29, v_29 = v_28.setCell ⟨lb, lo + 1, none⟩ (.slice (some ⟨g4, 0, none⟩) ((l).length + 1) c4) := ⟨_, rfl⟩
            change K _ (v_28.setCell ⟨lb, lo + 1, none⟩ (.slice (some ⟨g4, 0, none⟩) ((l).length + 1) c4))
            rw [← hw2]
            clear k0 k1 k2 k3
            have FL : Hid (LWo v_29 lb lo nx (.slice (some ⟨g4, 0, none⟩) ((l).length + 1) c4) (vs.set (lo + 1) (.slice (some ⟨g4, 0, none⟩) ((l).length + 1) c4))) := by rw [hw2]; exact FL.out.set1 _
            have FG : Hid (w.grownBy v_29 (some lb)) := by rw [hw2]; exact grown_trans FG.out (grown_set1 _ lb _ _)
            have FZ : Hid (Own v_29 eb (.slice (some ⟨g4, 0, none⟩) ((l).length + 1) c4) (l ++ [(⟨nx, f, t, sh, ca, 0, 0⟩ : Pe)])) := by rw [hw2]; exact FZ.out.other (fun e => by have e2 := Option.some.inj e; simp at e2; omega) _
            clear hw2
            have ml := FL.out.c0
            refine hK.out _ _ (by (try dsimp only); first | exact ml | go_keep) (fun hHeld => ?_)
            clear hK K
            try simp only [Act.put, List.getElem_toArray, List.getElem_cons_succ, List.getElem_cons_zero, List.setIfInBounds_toArray, List.set_cons_zero, List.set_cons_succ]
            refine wpAnyH_done (by kernel_rfl) ?_ _
            go_upto_region 20 with fail
            obtain ⟨k0, k1, k2, k3, -, -, -⟩ := FL.out
            have ex : IntKind.i64.wrap (nx + 1) = nx + 1 := IntWalk.i64_in _ (by omega)
            go_wp2_with fail
            go_ret
            exact ⟨rfl, .slice (some ⟨g4, 0, none⟩) ((l).length + 1) c4, (by first | exact FL.out.set0 _ | (rw [if_pos rfl, if_pos rfl]; exact FL.out.set0 _)), by (have q := (FZ.out.base (show B ≤ eb by omega)).other (p := ⟨lb, lo, none⟩) (fun e => by have e2 := Option.some.inj e; simp at e2; omega) (.int .i64 (nx + 1))); first | (rw [HF.out]; exact q) | (rw [if_pos rfl, HF.out]; exact q), (fun e => by have e2 := Option.some.inj e; simp at e2; omega), grown_trans FG.out (grown_set1 _ lb _ _)⟩
          · refine step_of rfl ?_
            go_simp
            obtain ⟨nb, hnb⟩ : ∃ nb, nb = v_25.heap.size := ⟨_, rfl⟩
            have lnb0 := F0.out.lt
            have lnb1 := FL.out.lt
            have lnb2 := FG.out.size
            rw [← hnb] at lnb0 lnb1 lnb2
            first | (have lx_ := (FE.out.lt eb rfl).2; rw [← hnb] at lx_) | skip
            obtain ⟨v_30, hw2⟩ : ∃ v_30, v_30 = v_25.alloc (.cells #[.int .i64 nx, .int .i64 f, .int .i64 t, .int .i64 sh, .int .i64 ca, .int .i64 0, .int .i64 0] 89) := ⟨_, rfl⟩
            have F0 : Hid (HAt v_30 w.heap.size h) := by rw [hw2]; exact F0.out.alloc _
            have FL : Hid (LWo v_30 lb lo nx (.slice (some ⟨g, 0, none⟩) l.length cap) vs) := by rw [hw2]; exact FL.out.alloc _
            have FO : Hid (Ow v_30 B g l.length cap l) := by rw [hw2]; exact FO.out.alloc _
            have FG : Hid (w.grownBy v_30 (some lb)) := by rw [hw2]; exact grown_trans FG.out (grown_new _ _ _)
            have FE : Hid (Own v_30 eb (.slice (some ⟨eb, 0, none⟩) 0 0) []) := by rw [hw2]; exact FE.out.alloc _
            have FN : Hid (P7 v_30 nb 0 (⟨nx, f, t, sh, ca, 0, 0⟩ : Pe)) := by rw [hw2]; exact P7.at_ v_25 (⟨nx, f, t, sh, ca, 0, 0⟩ : Pe) _ _ hnb
            rw [← hw2, ← hnb]
            clear hw2 hnb
            have ml := FL.out.c0
            refine hK.out _ _ (by (try dsimp only); first | exact ml | go_keep) (fun hHeld => ?_)
            clear hK K
            try simp only [Act.put, List.getElem_toArray, List.getElem_cons_succ, List.getElem_cons_zero, List.setIfInBounds_toArray, List.set_cons_zero, List.set_cons_succ]
            refine wpAnyH_ready (rs := [3]) (by kernel_rfl) (by simp) ?_
            refine (AllReadyH.cons rfl (fun K hK => ?_) AllReadyH.nil)
            refine step_of rfl ?_
            refine wp_append_pe eb eb 0 0 [] l rfl FE.out ⟨g, 0, none⟩ cap rfl (fun hpos => ⟨g, 0, rfl, fun i p hp => by rw [Nat.zero_add]; exact FO.out.p7 hp⟩) (by simp <;> omega) (Nat.le_of_lt ((FE.out.lt eb rfl).2)) ?_
            intro g3 c3 v_31 ho hg
            rw [List.nil_append] at ho
            have F0 : Hid (HAt v_31 w.heap.size h) := F0.out.grown hg (fun e => by have e2 := Option.some.inj e; omega)
            have FL : Hid (LWo v_31 lb lo nx (.slice (some ⟨g, 0, none⟩) l.length cap) vs) := FL.out.grown hg (fun e => by have e2 := Option.some.inj e; omega)
            have FO : Hid (Ow v_31 B g l.length cap l) := FO.out.kept hg (fun e => by have e2 := Option.some.inj e; omega)
            have FG : Hid (w.grownBy v_31 (some lb)) := gr_new FG.out hg (by omega)
            have FN : Hid (P7 v_31 nb 0 (⟨nx, f, t, sh, ca, 0, 0⟩ : Pe)) := FN.out.grew hg (fun e => by have e2 := Option.some.inj e; omega)
            have FA : Hid (Own v_31 eb (.slice (some ⟨g3, 0, none⟩) (l).length c3) (l)) := ho
            have lg3 : eb ≤ g3 := (FA.out.lt g3 rfl).1
            rw [List.nil_append]
            clear ho hg
            have ml := FL.out.c0
            refine hK.out _ _ (by (try dsimp only); first | exact ml | go_keep) (fun hHeld => ?_)
            clear hK K
            try simp only [Act.put, List.getElem_toArray, List.getElem_cons_succ, List.getElem_cons_zero, List.setIfInBounds_toArray, List.set_cons_zero, List.set_cons_succ]
            refine wpAnyH_ready (rs := [14]) (by kernel_rfl) (by simp) ?_
            refine (AllReadyH.cons rfl (fun K hK => ?_) AllReadyH.nil)
            refine step_of rfl ?_
            refine wp_append_pe eb g3 (l).length c3 l [(⟨nx, f, t, sh, ca, 0, 0⟩ : Pe)] rfl FA.out ⟨nb, 0, none⟩ 1 rfl (fun _ => ⟨nb, 0, rfl, fun i p hp => by cases i with | zero => (simp at hp; subst hp; exact FN.out) | succ i => simp at hp⟩) (by simp <;> omega) (by have := (FA.out.lt g3 rfl).2; omega) ?_
            intro g4 c4 v_32 ho hg
            rw [show (l ++ [(⟨nx, f, t, sh, ca, 0, 0⟩ : Pe)]).length = (l).length + 1 from by rw [List.length_append]; rfl] at ho ⊢
            have F0 : Hid (HAt v_32 w.heap.size h) := F0.out.grown hg (fun e => by have e2 := Option.some.inj e; omega)
            have FL : Hid (LWo v_32 lb lo nx (.slice (some ⟨g, 0, none⟩) l.length cap) vs) := FL.out.grown hg (fun e => by have e2 := Option.some.inj e; omega)
            have FO : Hid (Ow v_32 B g l.length cap l) := FO.out.kept hg (fun e => by have e2 := Option.some.inj e; omega)
            have FG : Hid (w.grownBy v_32 (some lb)) := gr_new FG.out hg (by omega)
            have FZ : Hid (Own v_32 eb (.slice (some ⟨g4, 0, none⟩) ((l).length + 1) c4) (l ++ [(⟨nx, f, t, sh, ca, 0, 0⟩ : Pe)])) := ho
            have lg4 : eb ≤ g4 := (FZ.out.lt g4 rfl).1
            clear ho hg
            have ml := FL.out.c0
            refine hK.out _ _ (by (try dsimp only); first | exact ml | go_keep) (fun hHeld => ?_)
            clear hK K
            try simp only [Act.put, List.getElem_toArray, List.getElem_cons_succ, List.getElem_cons_zero, List.setIfInBounds_toArray, List.set_cons_zero, List.set_cons_succ]
            refine tkz 15 rfl ?_
            refine tkz 16 rfl ?_
            refine wpAnyH_ready (rs := [17]) (by kernel_rfl) (by simp) ?_
            refine (AllReadyH.cons rfl (fun K hK => ?_) AllReadyH.nil)
            obtain ⟨k0, k1, k2, k3, -, -, -⟩ := FL.out
            go_simp
            obtain ⟨v_33, hw2⟩ : ∃ v_33, v_33 = v_32.setCell ⟨lb, lo + 1, none⟩ (.slice (some ⟨g4, 0, none⟩) ((l).length + 1) c4) := ⟨_, rfl⟩
            change K _ (v_32.setCell ⟨lb, lo + 1, none⟩ (.slice (some ⟨g4, 0, none⟩) ((l).length + 1) c4))
            rw [← hw2]
            clear k0 k1 k2 k3
            have FL : Hid (LWo v_33 lb lo nx (.slice (some ⟨g4, 0, none⟩) ((l).length + 1) c4) (vs.set (lo + 1) (.slice (some ⟨g4, 0, none⟩) ((l).length + 1) c4))) := by rw [hw2]; exact FL.out.set1 _
            have FG : Hid (w.grownBy v_33 (some lb)) := by rw [hw2]; exact grown_trans FG.out (grown_set1 _ lb _ _)
            have FZ : Hid (Own v_33 eb (.slice (some ⟨g4, 0, none⟩) ((l).length + 1) c4) (l ++ [(⟨nx, f, t, sh, ca, 0, 0⟩ : Pe)])) := by rw [hw2]; exact FZ.out.other (fun e => by have e2 := Option.some.inj e; simp at e2; omega) _
            clear hw2
            have ml := FL.out.c0
            refine hK.out _ _ (by (try dsimp only); first | exact ml | go_keep) (fun hHeld => ?_)
            clear hK K
            try simp only [Act.put, List.getElem_toArray, List.getElem_cons_succ, List.getElem_cons_zero, List.setIfInBounds_toArray, List.set_cons_zero, List.set_cons_succ]
            refine wpAnyH_done (by kernel_rfl) ?_ _
            go_upto_region 20 with fail
            obtain ⟨k0, k1, k2, k3, -, -, -⟩ := FL.out
            have ex : IntKind.i64.wrap (nx + 1) = nx + 1 := IntWalk.i64_in _ (by omega)
            go_wp2_with fail
            go_ret
            exact ⟨rfl, .slice (some ⟨g4, 0, none⟩) ((l).length + 1) c4, (by first | exact FL.out.set0 _ | (rw [if_pos rfl, if_pos rfl]; exact FL.out.set0 _)), by (have q := (FZ.out.base (show B ≤ eb by omega)).other (p := ⟨lb, lo, none⟩) (fun e => by have e2 := Option.some.inj e; simp at e2; omega) (.int .i64 (nx + 1))); first | (rw [HF.out]; exact q) | (rw [if_pos rfl, HF.out]; exact q), (fun e => by have e2 := Option.some.inj e; simp at e2; omega), grown_trans FG.out (grown_set1 _ lb _ _)⟩
        · refine step_of rfl ?_
          go_simp
          obtain ⟨nb, hnb⟩ : ∃ nb, nb = v_24.heap.size := ⟨_, rfl⟩
          have lnb0 := F0.out.lt
          have lnb1 := FL.out.lt
          have lnb2 := FG.out.size
          rw [← hnb] at lnb0 lnb1 lnb2
          first | (have lx_ := (FE.out.lt eb rfl).2; rw [← hnb] at lx_) | skip
          obtain ⟨v_34, hw2⟩ : ∃ v_34, v_34 = v_24.alloc (.cells #[.int .i64 nx, .int .i64 f, .int .i64 t, .int .i64 sh, .int .i64 ca, .int .i64 0, .int .i64 0] 89) := ⟨_, rfl⟩
          have F0 : Hid (HAt v_34 w.heap.size h) := by rw [hw2]; exact F0.out.alloc _
          have FL : Hid (LWo v_34 lb lo nx (.slice (some ⟨g, 0, none⟩) l.length cap) vs) := by rw [hw2]; exact FL.out.alloc _
          have FO : Hid (Ow v_34 B g l.length cap l) := by rw [hw2]; exact FO.out.alloc _
          have FG : Hid (w.grownBy v_34 (some lb)) := by rw [hw2]; exact grown_trans FG.out (grown_new _ _ _)
          have FN : Hid (P7 v_34 nb 0 (⟨nx, f, t, sh, ca, 0, 0⟩ : Pe)) := by rw [hw2]; exact P7.at_ v_24 (⟨nx, f, t, sh, ca, 0, 0⟩ : Pe) _ _ hnb
          rw [← hw2, ← hnb]
          clear hw2 hnb
          have ml := FL.out.c0
          refine hK.out _ _ (by (try dsimp only); first | exact ml | go_keep) (fun hHeld => ?_)
          clear hK K
          try simp only [Act.put, List.getElem_toArray, List.getElem_cons_succ, List.getElem_cons_zero, List.setIfInBounds_toArray, List.set_cons_zero, List.set_cons_succ]
          refine wpAnyH_ready (rs := [1]) (by kernel_rfl) (by simp) ?_
          refine (AllReadyH.cons rfl (fun K hK => ?_) AllReadyH.nil)
          refine step_of rfl ?_
          go_simp
          obtain ⟨eb, heb⟩ : ∃ eb, eb = v_34.heap.size := ⟨_, rfl⟩
          have leb0 := F0.out.lt
          have leb1 := FL.out.lt
          have leb2 := FG.out.size
          rw [← heb] at leb0 leb1 leb2
          first | (have ly_ := FN.out.lt; rw [← heb] at ly_) | skip
          obtain ⟨v_35, hw2⟩ : ∃ v_35, v_35 = v_34.alloc (.cells #[] 89) := ⟨_, rfl⟩
          have F0 : Hid (HAt v_35 w.heap.size h) := by rw [hw2]; exact F0.out.alloc _
          have FL : Hid (LWo v_35 lb lo nx (.slice (some ⟨g, 0, none⟩) l.length cap) vs) := by rw [hw2]; exact FL.out.alloc _
          have FO : Hid (Ow v_35 B g l.length cap l) := by rw [hw2]; exact FO.out.alloc _
          have FG : Hid (w.grownBy v_35 (some lb)) := by rw [hw2]; exact grown_trans FG.out (grown_new _ _ _)
          have FN : Hid (P7 v_35 nb 0 (⟨nx, f, t, sh, ca, 0, 0⟩ : Pe)) := by rw [hw2]; exact FN.out.alloc _
          have FE : Hid (Own v_35 eb (.slice (some ⟨eb, 0, none⟩) 0 0) []) := by rw [hw2, heb]; exact own_empty v_34 _ (Nat.le_refl _)
          rw [← hw2, ← heb]
          clear hw2 heb
          have ml := FL.out.c0
          refine hK.out _ _ (by (try dsimp only); first | exact ml | go_keep) (fun hHeld => ?_)
          clear hK K
          try simp only [Act.put, List.getElem_toArray, List.getElem_cons_succ, List.getElem_cons_zero, List.setIfInBounds_toArray, List.set_cons_zero, List.set_cons_succ]
          refine wpAnyH_ready (rs := [3]) (by kernel_rfl) (by simp) ?_
          refine (AllReadyH.cons rfl (fun K hK => ?_) AllReadyH.nil)
          refine step_of rfl ?_
          refine wp_append_pe eb eb 0 0 [] l rfl FE.out ⟨g, 0, none⟩ cap rfl (fun hpos => ⟨g, 0, rfl, fun i p hp => by rw [Nat.zero_add]; exact FO.out.p7 hp⟩) (by simp <;> omega) (Nat.le_of_lt ((FE.out.lt eb rfl).2)) ?_
          intro g3 c3 v_36 ho hg
          rw [List.nil_append] at ho
          have F0 : Hid (HAt v_36 w.heap.size h) := F0.out.grown hg (fun e => by have e2 := Option.some.inj e; omega)
          have FL : Hid (LWo v_36 lb lo nx (.slice (some ⟨g, 0, none⟩) l.length cap) vs) := FL.out.grown hg (fun e => by have e2 := Option.some.inj e; omega)
          have FO : Hid (Ow v_36 B g l.length cap l) := FO.out.kept hg (fun e => by have e2 := Option.some.inj e; omega)
          have FG : Hid (w.grownBy v_36 (some lb)) := gr_new FG.out hg (by omega)
          have FN : Hid (P7 v_36 nb 0 (⟨nx, f, t, sh, ca, 0, 0⟩ : Pe)) := FN.out.grew hg (fun e => by have e2 := Option.some.inj e; omega)
          have FA : Hid (Own v_36 eb (.slice (some ⟨g3, 0, none⟩) (l).length c3) (l)) := ho
          have lg3 : eb ≤ g3 := (FA.out.lt g3 rfl).1
          rw [List.nil_append]
          clear ho hg
          have ml := FL.out.c0
          refine hK.out _ _ (by (try dsimp only); first | exact ml | go_keep) (fun hHeld => ?_)
          clear hK K
          try simp only [Act.put, List.getElem_toArray, List.getElem_cons_succ, List.getElem_cons_zero, List.setIfInBounds_toArray, List.set_cons_zero, List.set_cons_succ]
          refine wpAnyH_ready (rs := [14]) (by kernel_rfl) (by simp) ?_
          refine (AllReadyH.cons rfl (fun K hK => ?_) AllReadyH.nil)
          refine step_of rfl ?_
          refine wp_append_pe eb g3 (l).length c3 l [(⟨nx, f, t, sh, ca, 0, 0⟩ : Pe)] rfl FA.out ⟨nb, 0, none⟩ 1 rfl (fun _ => ⟨nb, 0, rfl, fun i p hp => by cases i with | zero => (simp at hp; subst hp; exact FN.out) | succ i => simp at hp⟩) (by simp <;> omega) (by have := (FA.out.lt g3 rfl).2; omega) ?_
          intro g4 c4 v_37 ho hg
          rw [show (l ++ [(⟨nx, f, t, sh, ca, 0, 0⟩ : Pe)]).length = (l).length + 1 from by rw [List.length_append]; rfl] at ho ⊢
          have F0 : Hid (HAt v_37 w.heap.size h) := F0.out.grown hg (fun e => by have e2 := Option.some.inj e; omega)
          have FL : Hid (LWo v_37 lb lo nx (.slice (some ⟨g, 0, none⟩) l.length cap) vs) := FL.out.grown hg (fun e => by have e2 := Option.some.inj e; omega)
          have FO : Hid (Ow v_37 B g l.length cap l) := FO.out.kept hg (fun e => by have e2 := Option.some.inj e; omega)
          have FG : Hid (w.grownBy v_37 (some lb)) := gr_new FG.out hg (by omega)
          have FZ : Hid (Own v_37 eb (.slice (some ⟨g4, 0, none⟩) ((l).length + 1) c4) (l ++ [(⟨nx, f, t, sh, ca, 0, 0⟩ : Pe)])) := ho
          have lg4 : eb ≤ g4 := (FZ.out.lt g4 rfl).1
          clear ho hg
          have ml := FL.out.c0
          refine hK.out _ _ (by (try dsimp only); first | exact ml | go_keep) (fun hHeld => ?_)
          clear hK K
          try simp only [Act.put, List.getElem_toArray, List.getElem_cons_succ, List.getElem_cons_zero, List.setIfInBounds_toArray, List.set_cons_zero, List.set_cons_succ]
          refine tkz 15 rfl ?_
          refine tkz 16 rfl ?_
          refine wpAnyH_ready (rs := [17]) (by kernel_rfl) (by simp) ?_
          refine (AllReadyH.cons rfl (fun K hK => ?_) AllReadyH.nil)
          obtain ⟨k0, k1, k2, k3, -, -, -⟩ := FL.out
          go_simp
          obtain ⟨v_38, hw2⟩ : ∃ v_38, v_38 = v_37.setCell ⟨lb, lo + 1, none⟩ (.slice (some ⟨g4, 0, none⟩) ((l).length + 1) c4) := ⟨_, rfl⟩
          change K _ (v_37.setCell ⟨lb, lo + 1, none⟩ (.slice (some ⟨g4, 0, none⟩) ((l).length + 1) c4))
          rw [← hw2]
          clear k0 k1 k2 k3
          have FL : Hid (LWo v_38 lb lo nx (.slice (some ⟨g4, 0, none⟩) ((l).length + 1) c4) (vs.set (lo + 1) (.slice (some ⟨g4, 0, none⟩) ((l).length + 1) c4))) := by rw [hw2]; exact FL.out.set1 _
          have FG : Hid (w.grownBy v_38 (some lb)) := by rw [hw2]; exact grown_trans FG.out (grown_set1 _ lb _ _)
          have FZ : Hid (Own v_38 eb (.slice (some ⟨g4, 0, none⟩) ((l).length + 1) c4) (l ++ [(⟨nx, f, t, sh, ca, 0, 0⟩ : Pe)])) := by rw [hw2]; exact FZ.out.other (fun e => by have e2 := Option.some.inj e; simp at e2; omega) _
          clear hw2
          have ml := FL.out.c0
          refine hK.out _ _ (by (try dsimp only); first | exact ml | go_keep) (fun hHeld => ?_)
          clear hK K
          try simp only [Act.put, List.getElem_toArray, List.getElem_cons_succ, List.getElem_cons_zero, List.setIfInBounds_toArray, List.set_cons_zero, List.set_cons_succ]
          refine wpAnyH_done (by kernel_rfl) ?_ _
          go_upto_region 20 with fail
          obtain ⟨k0, k1, k2, k3, -, -, -⟩ := FL.out
          have ex : IntKind.i64.wrap (nx + 1) = nx + 1 := IntWalk.i64_in _ (by omega)
          go_wp2_with fail
          go_ret
          exact ⟨rfl, .slice (some ⟨g4, 0, none⟩) ((l).length + 1) c4, (by first | exact FL.out.set0 _ | (rw [if_pos rfl, if_pos rfl]; exact FL.out.set0 _)), by (have q := (FZ.out.base (show B ≤ eb by omega)).other (p := ⟨lb, lo, none⟩) (fun e => by have e2 := Option.some.inj e; simp at e2; omega) (.int .i64 (nx + 1))); first | (rw [HF.out]; exact q) | (rw [if_pos rfl, HF.out]; exact q), (fun e => by have e2 := Option.some.inj e; simp at e2; omega), grown_trans FG.out (grown_set1 _ lb _ _)⟩
end Go.Proofs.YtdkikijnjkoddaaGreat
