/-
  Zones: the middle of a set, where its car waits (the program).
-/
import Derived.Test.YtnpnlckdggakmaaZonE
import Derived.Sort.CutIn
namespace Go.Proofs.Ytnpnlckdggakmaa
open Go.RowKit Go.Shelf Pl
set_option linter.unusedSimpArgs false
set_option linter.unusedVariables false
attribute [local go_sem] Oper.semAt_some

def midL (l : List Int) : Int := l.getD ((l.length - 1) / 2) 0
/-- The first of them that isn't taken; else the other one. -/
def freeL (t : Nat) (l : List Int) (d : Int) : Int := (l.find? (fun x => !t.testBit x.toNat)).getD d
def parkF (z t : Nat) : Int := if t.testBit (midL (fls 12 z)).toNat = true then freeL t (fls 12 z) (midL (fls 12 z)) else midL (fls 12 z)
theorem midL_get {l : List Int} (h : l ≠ []) : l[(l.length - 1) / 2]? = some (midL l) := by
  have hl : 0 < l.length := List.length_pos_iff.2 h
  unfold midL
  rw [List.getD_eq_getElem?_getD, List.getElem?_eq_getElem (by omega)]
  rfl
theorem fls_bd {n m : Nat} {x : Int} (h : x ∈ fls n m) : 0 ≤ x ∧ x < n := by
  obtain ⟨f, rfl, h1, _⟩ := mem_fls.1 h
  omega
theorem midL_mem {l : List Int} (h : l ≠ []) : midL l ∈ l := List.mem_of_getElem? (midL_get h)
set_option maxRecDepth 20000 in
set_option maxHeartbeats 4000000 in
theorem middle_any (m : Nat) (hm : m < 4096) (h0 : m ≠ 0) (w : World) :
    Calls Try.prog 66 #[.agg (bvs m).toArray] w fun e w' => e = .returned (.int .i64 (midL (fls 12 m))) ∧ Below w.heap.size w w' := by
  have F : Hid (Blk (w.alloc (.cells (bvs m).toArray 61)) w.heap.size (bvs m)) := Blk.at_ w _ _ _ rfl
  have FB : Hid (Below w.heap.size w (w.alloc (.cells (bvs m).toArray 61))) := (Below.refl _ _).alloc (Nat.le_refl _) _
  have hne : fls 12 m ≠ [] := fun e => h0 ((fls_nil hm).1 e)
  have hll := fls_len 12 m
  obtain ⟨L, hL⟩ : ∃ L, fls 12 m = L := ⟨_, rfl⟩
  have HL : Hid (fls 12 m = L) := hL
  rw [hL] at hne hll ⊢
  have hpos : 0 < L.length := List.length_pos_iff.2 hne
  have HG : Hid (L[(L.length - 1) / 2]? = some (midL L)) := midL_get hne
  obtain ⟨q, hq⟩ : ∃ q, midL L = q := ⟨_, rfl⟩
  rw [hq] at HG ⊢
  clear hL hne hq
  go_enter Try.func66, Try.ntmps66
  go_upto_region 2 with (first | (refine load_arr 61 _ undFS (bvs_info m) F.out rfl rfl rfl ?_) | (go_at_call 65; refine (floors_any m _).mono ?_; rintro e w1 ⟨rfl, hw0⟩; have F3 : Hid (Blk w1 (w.heap.size + 1) (bvs m)) := (by rw [hw0]; exact Blk.at_ _ (bvs m).toArray _ _ (by simp)); have FB : Hid (Below w.heap.size w w1) := (by rw [hw0]; exact FB.out.alloc FB.out.size _); clear hw0) | (go_at_call 80; refine (collect_any _ m _ F3.out).mono ?_; rw [HL.out]; rintro e w2 ⟨v, rfl, ho, hb⟩; have FB : Hid (Below w.heap.size w w2) := FB.out.trans (hb.mono FB.out.size); have HO : Hid (OwI w2 w1.heap.size v L) := ho; clear hb ho))
  rcases HO.out.cases with ⟨_, h0⟩ | ⟨g, cap, rfl⟩
  · rw [h0] at hpos; simp at hpos
  have c0 := HO.out.cell HG.out
  obtain ⟨k, hk⟩ : ∃ k, L.length = k + 1 := ⟨L.length - 1, by omega⟩
  have e1 : (L.length - 1) / 2 = k / 2 := by rw [hk]; rfl
  rw [e1] at c0
  rw [hk] at hll hpos ⊢
  have e2 : wrap64 (((k + 1 : Nat) : Int) - 1) = (k : Int) := by unfold wrap64; omega
  have e3 : ((k : Int)).tdiv 2 = ((k / 2 : Nat) : Int) := by rw [Int.tdiv_eq_ediv_of_nonneg (by omega)]; omega
  have d1 : k / 2 < k + 1 := by omega
  clear hk e1 HG HL HO
  go_wp2
  go_ret
  exact ⟨rfl, FB.out⟩
theorem freeL_all {t : Nat} {l : List Int} {d : Int} (h : ∀ x ∈ l, t.testBit x.toNat = true) : freeL t l d = d := by
  unfold freeL
  rw [List.find?_eq_none.2 (fun x hx => by rw [h x hx]; decide)]
  rfl
theorem freeL_at {t : Nat} {l a b : List Int} {x d : Int} (e : l = a ++ x :: b) (h : ∀ y ∈ a, t.testBit y.toNat = true) (hx : t.testBit x.toNat = false) : freeL t l d = x := by
  unfold freeL
  rw [e, List.find?_append, List.find?_eq_none.2 (fun y hy => by rw [h y hy]; decide)]
  simp [hx]
set_option maxRecDepth 100000 in
set_option maxHeartbeats 8000000 in
theorem parkFloor_any (m t : Nat) (hm : m < 4096) (h0 : m ≠ 0) (w : World) :
    Calls Try.prog 46 #[.agg (bvs m).toArray, .agg (bvs t).toArray] w fun e w' => e = .returned (.int .i64 (parkF m t)) ∧ Below w.heap.size w w' := by
  have hne : fls 12 m ≠ [] := fun e => h0 ((fls_nil hm).1 e)
  obtain ⟨mid, hmid⟩ : ∃ mid : Nat, midL (fls 12 m) = (mid : Int) := ⟨(midL (fls 12 m)).toNat, by have := (fls_bd (midL_mem hne)).1; omega⟩
  have hm12 : mid < 12 := by have := (fls_bd (midL_mem hne)).2; omega
  obtain ⟨P, hP⟩ : ∃ P, parkF m t = P := ⟨_, rfl⟩
  have HP : Hid ((if t.testBit mid = true then freeL t (fls 12 m) mid else (mid : Int)) = P) := by
    show _ = P
    rw [← hP]
    unfold parkF
    rw [hmid, Int.toNat_natCast]
  have HM : Hid (midL (fls 12 m) = (mid : Int)) := hmid
  rw [hP]
  clear hP hmid
  refine (callsIn_wide (n := 5)).1 ?_
  obtain ⟨b0, hb0⟩ : ∃ b0, b0 = w.heap.size := ⟨_, rfl⟩
  obtain ⟨b1, hb1⟩ : ∃ b1, b1 = b0 + 1 := ⟨_, rfl⟩
  obtain ⟨b2, hb2⟩ : ∃ b2, b2 = b0 + 1 + 1 := ⟨_, rfl⟩
  obtain ⟨W0, hW0⟩ : ∃ W0, W0 = ((w.alloc (.cells (bvs m).toArray 61)).alloc (.cells (bvs t).toArray 61)).alloc (.cells #[.int .i64 0] 2) := ⟨_, rfl⟩
  have F0 : Blk W0 b0 (bvs m) := by rw [hW0]; exact ((Blk.at_ w (bvs m).toArray _ _ hb0).alloc _).alloc _
  have F1 : Blk W0 b1 (bvs t) := by rw [hW0]; exact (Blk.at_ _ (bvs t).toArray _ _ (by simp; omega)).alloc _
  have F2 : Blk W0 b2 [.int .i64 0] := by rw [hW0]; exact Blk.at_ _ #[.int .i64 0] _ _ (by simp; omega)
  have FB : Below w.heap.size w W0 := by rw [hW0]; exact (((Below.refl _ _).alloc (Nat.le_refl _) _).alloc (by simp) _).alloc (by simp; omega) _
  have l2 : w.heap.size ≤ b2 := by omega
  have n02 : b0 ≠ b2 := by omega
  have n12 : b1 ≠ b2 := by omega
  refine callsIn_of_wp_marks Try.func46 rfl trivial ?_ rfl
  simp only [Try.ntmps46, List.size_toArray, List.length_cons, List.length_nil, Nat.reduceAdd, Nat.reduceSub, Array.replicate_succ, Array.replicate_zero, List.push_toArray, List.append_toArray, List.nil_append, List.cons_append]
  gi_upto_region 1 with fail
  rw [← hb0, ← hb2, ← hb1, ← hW0]
  clear hb0 hb1 hb2 hW0
  gi_upto_region 2 with (first | (refine load_arrIn 61 _ undFS (bvs_info m) F0 rfl rfl rfl ?_) | (refine ⟨trivial, ?_⟩; refine (callsIn_wide.2 (middle_any m hm h0 _)).mono ?_; rw [HM.out]; rintro e w1 ⟨rfl, hb⟩; have G0 := F0.below hb F0.lt; have G1 := F1.below hb F1.lt; have G2 := F2.below hb F2.lt; have GB := FB.trans (hb.mono FB.size); clear hb F0 F1 F2 FB))
  cases hT : t.testBit mid
  · gi_upto_region 3 with (first | (refine load_arrIn 61 _ undFS (bvs_info t) G1 rfl rfl rfl ?_) | (refine ⟨trivial, ?_⟩; refine (callsIn_wide.2 (has_any t mid hm12 _)).mono ?_; rw [hT]; rintro e w2 ⟨rfl, hb⟩; have F0 := G0.below hb G0.lt; have F1 := G1.below hb G1.lt; have F2 := G2.below hb G2.lt; have FB := GB.trans (hb.mono GB.size); clear hb G0 G1 G2 GB))
    have f2 := F2.f 0 (by simp)
    have c2 := F2.c 0 _ rfl
    have HE : Hid ((mid : Int) = P) := by show _ = P; rw [← HP.out, hT]; rfl
    gi_wp2
    have F3 := F2.set (k := 0) (.int .i64 (mid : Int)) (by simp)
    have c3 := F3.c 0 _ rfl
    exact ⟨.int .i64 (mid : Int), by simp [results, Try.results46, go_sem, c3], by rw [HE.out], FB.setCell l2 _⟩
  · gi_upto_region 4 with (first | (refine load_arrIn 61 _ undFS (bvs_info t) G1 rfl rfl rfl ?_) | (refine ⟨trivial, ?_⟩; refine (callsIn_wide.2 (has_any t mid hm12 _)).mono ?_; rw [hT]; rintro e w2 ⟨rfl, hb⟩; have F0 := G0.below hb G0.lt; have F1 := G1.below hb G1.lt; have F2 := G2.below hb G2.lt; have FB := GB.trans (hb.mono GB.size); clear hb G0 G1 G2 GB))
    gi_wp2_with (first | (refine load_arrIn 61 _ undFS (bvs_info m) F0 rfl rfl rfl ?_) | (refine ⟨trivial, ?_⟩; refine (callsIn_wide.2 (floors_any m _)).mono ?_; rintro e w3 ⟨rfl, hw0⟩; have hw : Hid (w3 = w2.alloc (.cells (bvs m).toArray 61)) := hw0; clear hw0))
    obtain ⟨b3, hb3⟩ : ∃ b3, b3 = w2.heap.size := ⟨_, rfl⟩
    have l3 : b2 < b3 := by rw [hb3]; exact F2.lt
    have G1 : Blk w3 b1 (bvs t) := by rw [hw.out]; exact F1.alloc _
    have G2 : Blk w3 b2 [.int .i64 0] := by rw [hw.out]; exact F2.alloc _
    have G3 : Blk w3 b3 (bvs m) := by rw [hw.out]; exact Blk.at_ _ (bvs m).toArray _ _ hb3
    have GB : Below w.heap.size w w3 := by rw [hw.out]; exact FB.alloc FB.size _
    have n32 : b3 ≠ b2 := by omega
    have HE : Hid (freeL t (fls 12 m) (mid : Int) = P) := by show _ = P; rw [← HP.out, hT]; rfl
    rw [← hb3]
    clear hb3 hw F0 F1 F2 FB HP HM hne
    refine wpIn_rangeFunc_ownG rfl (by omega) (gf := 79) (lb := #[.pointer (some ⟨b3, 0, none⟩)]) rfl trivial (enters_of Try.func79 (by kernel_rfl) rfl)
      (floors_stops _ b3 m _ G3) keepB_t (keepB_b G3.lt) (Below.refl _ _) (fun _ => rfl)
      (fun pre W => ((Blk W b1 (bvs t) ∧ Blk W b2 [.int .i64 0] ∧ Blk W b3 (bvs m)) ∧ (∀ x ∈ numF pre, t.testBit x.toNat = true)) ∧ Below w.heap.size w W)
      (fun c pre W => ((∃ x, c = .ret ∧ (∃ ini, numF pre = ini ++ [x] ∧ (∀ y ∈ ini, t.testBit y.toNat = true) ∧ t.testBit x.toNat = false) ∧ Blk W b2 [.int .i64 x])) ∧ Below w.heap.size w W)
      (OwnFrom.and (OwnFrom.and (OwnFrom.and (blk_own _ b1 (fun _ => bvs t)) (OwnFrom.and (blk_own _ b2 (fun _ => [.int .i64 0])) (blk_own _ b3 (fun _ => bvs m)))) (fun _ _ _ _ hs _ _ => hs)) (ownFrom_below (Nat.le_refl _) GB.size))
      (fun c => OwnFrom.and (fun s A B row hs hg hr => by obtain ⟨x, e, hi, hB⟩ := hs; exact ⟨x, e, hi, hB.kept hg (fun r e => (hr r e).2)⟩) (ownFrom_below (Nat.le_refl _) GB.size))
      ⟨⟨⟨G1, G2, G3⟩, fun x hx => by cases hx⟩, GB⟩
      (fun x => { tmps := #[.agg (bvs m).toArray, .agg (bvs t).toArray, .pointer (some ⟨b0, 0, none⟩), .pointer (some ⟨b1, 0, none⟩), .pointer (some ⟨b2, 0, none⟩), .int .i64 (mid : Int), .int .i64 (x.1 : Int), .agg (bvs m).toArray, .int .i64 (mid : Int), .agg (bvs t).toArray, .int .i64 (mid : Int), .bool true, .bool false, undef, .agg (bvs m).toArray, Value.func (.func 79) #[] #[.pointer (some ⟨b3, 0, none⟩)], .int .i64 (x.1 : Int), undef, undef, undef, undef, undef, undef], defers := [] }) ?assign ?body ?done ?stop
    case assign =>
      intro l x W K hK
      gi_wp2
      exact hK
    case body =>
      rintro l pre x W ⟨⟨⟨h1, h2, h3⟩, hall⟩, hBW⟩ hlen
      have hx := x.2
      have en : numF (pre ++ [x]) = numF pre ++ [(x.1 : Int)] := numF_snoc pre x
      have HN : Hid (numF (pre ++ [x]) = numF pre ++ [(x.1 : Int)]) := en
      clear en
      cases hX : t.testBit x.1
      · have HX : Hid (t.testBit ((x.1 : Int)).toNat = false) := by show _ = false; rw [Int.toNat_natCast]; exact hX
        gi_wp2_with (first | (refine load_arrIn 61 _ undFS (bvs_info t) h1 rfl rfl rfl ?_) | (refine ⟨trivial, ?_⟩; refine (CallsIn.inRound l (callsIn_wide.2 (has_any t x.1 hx _))).mono ?_; rw [hX]; rintro e w4 ⟨rfl, hb⟩; have g1 := h1.below hb h1.lt; have g2 := h2.below hb h2.lt; have gB := hBW.trans (hb.mono hBW.size); have gk : KeepsOthers W w4 := KeepsOthers.of_grownBy (grown_of hb) (fun j o e => by cases e); have gf := g2.f 0 (by simp); have gc := g2.c 0 _ rfl))
        exact ⟨(gk.trans (KeepsOthers.setCell _ _ _)).from _, ⟨_, rfl, ⟨numF pre, HN.out, hall, HX.out⟩, g2.set _ (by simp)⟩, gB.setCell l2 _⟩
      · have HX : Hid (t.testBit ((x.1 : Int)).toNat = true) := by show _ = true; rw [Int.toNat_natCast]; exact hX
        gi_wp2_with (first | (refine load_arrIn 61 _ undFS (bvs_info t) h1 rfl rfl rfl ?_) | (refine ⟨trivial, ?_⟩; refine (CallsIn.inRound l (callsIn_wide.2 (has_any t x.1 hx _))).mono ?_; rw [hX]; rintro e w4 ⟨rfl, hb⟩; have g1 := h1.below hb h1.lt; have g2 := h2.below hb h2.lt; have gB := hBW.trans (hb.mono hBW.size); have gk : KeepsOthers W w4 := KeepsOthers.of_grownBy (grown_of hb) (fun j o e => by cases e); have g3 := h3.below hb h3.lt; have g4 : KeepB b3 W w4 := hb.block b3 h3.lt))
        refine ⟨gk.from _, g4, ⟨⟨g1, g2, g3⟩, ?_⟩, gB⟩
        intro y hy
        rw [HN.out] at hy
        rcases List.mem_append.1 hy with c | c
        · exact hall y c
        · rw [List.mem_singleton.1 c]; exact HX.out
    case done =>
      rintro D ys W hD rfl ⟨⟨⟨h1, h2, -⟩, hall⟩, hBW⟩ hK
      have cz := h2.c 0 _ rfl
      have fz := h2.f 0 (by simp)
      have HF : Hid ((mid : Int) = P) := by
        show _ = P
        rw [← HE.out]
        rw [numF_up m 12 (Nat.le_refl _)] at hall
        exact (freeL_all hall).symm
      gi_wp2
      have h3 := h2.set (k := 0) (.int .i64 (mid : Int)) (by simp)
      have hK' := (KeepsOthers.setCell W ⟨b2, 0, none⟩ (.int .i64 (mid : Int))).same D _ hK rfl
      refine ⟨by simp, .inl ⟨_, _, rfl, run_takeDeferred hK', ?_⟩⟩
      have h4 := h3.kept (grownBy_putObj' _ D (.deferred none)) (fun r e => by cases e; exact ⟨_, hK', rfl⟩)
      have c4 := h4.c 0 _ rfl
      exact ⟨.int .i64 (mid : Int), by simp [results, Try.results46, go_sem, c4], by rw [HF.out], below_putObj (hBW.setCell l2 _) (by have := GB.size; omega) (by have := hBW.size; simpa using this) hK'⟩
    case stop =>
      rintro D c pre W hD hpre ⟨⟨x, rfl, ⟨ini, e1, e2, e3⟩, h2⟩, hBW⟩ hK
      have HF : Hid (x = P) := by
        show _ = P
        rw [← HE.out]
        obtain ⟨rest, hr⟩ := hpre
        refine (freeL_at (a := ini) (b := numF rest) (x := x) ?_ e2 e3).symm
        rw [← numF_up m 12 (Nat.le_refl _), ← hr]
        unfold numF at *
        rw [List.map_append, e1, List.append_assoc]
        rfl
      gi_wp2
      refine ⟨by simp, .inl ⟨_, _, rfl, run_takeDeferred hK, ?_⟩⟩
      have h4 := h2.kept (grownBy_putObj' _ D (.deferred none)) (fun r e => by cases e; exact ⟨_, hK, rfl⟩)
      have c4 := h4.c 0 _ rfl
      exact ⟨.int .i64 x, by simp [results, Try.results46, go_sem, c4], by rw [HF.out], below_putObj hBW (by have := GB.size; omega) hBW.size hK⟩
end Go.Proofs.Ytnpnlckdggakmaa
