/-
  Zones: the floors that many have (the program).
-/
import Derived.Test.YtnpnlckdggakmaaZonSa
import Derived.Test.YtnpnlckdggakmaaFnd
import Derived.Deep.RegionHeld3
namespace Go.Proofs.Ytnpnlckdggakmaa
open Go.RowKit Go.Shelf Pl Go.Maps Go.ChangeMaps Go.MapKept
set_option linter.unusedSimpArgs false
set_option linter.unusedVariables false
attribute [local go_sem] Oper.semAt_some

theorem rngZ_below {w w' : World} {b r n cnt : Nat} {D : DataW Value} {left : Lit → Bool} (h : w.ranges Try.prog 61 RVZ b r n D left cnt) (e1 : w'.heap[b]? = w.heap[b]?) (e2 : w'.heap[r]? = w.heap[r]?) : w'.ranges Try.prog 61 RVZ b r n D left cnt := by
  obtain ⟨es, clock, since, seen, c0, h1, h2, h3, h4, h5, h6⟩ := h
  exact ⟨es, clock, since, seen, c0, e1.trans h1, h2, h3, h4, e2.trans h5, h6⟩
theorem rng_ltr {w : World} {b r n cnt : Nat} {D : DataW Value} {left : Lit → Bool} (h : w.ranges Try.prog 61 RVZ b r n D left cnt) : r < w.heap.size := by
  obtain ⟨es, clock, since, seen, c0, h1, h2, h3, h4, h5, h6⟩ := h
  exact (Array.getElem?_eq_some_iff.1 h5).1
theorem rng_left {w : World} {b r n cnt : Nat} {D : DataW Value} {left : Lit → Bool} (h : w.ranges Try.prog 61 RVZ b r n D left cnt) : w.rangeLeft b r = cnt := by
  obtain ⟨es, clock, since, seen, c0, h1, h2, h3, h4, h5, h6, h7, h8⟩ := h
  unfold World.rangeLeft
  rw [h1, h5]
  exact h7
theorem same_yes (m : Nat) : (keyF m).sameKey (keyF m) = true := by
  unfold keyF
  simp [Lit.sameKey]
theorem same_no {k m : Nat} (hk : k < 4096) (hm : m < 4096) (h : k ≠ m) : (keyF k).sameKey (keyF m) = false := by
  cases c : (keyF k).sameKey (keyF m) with
  | false => rfl
  | true =>
    refine absurd (keyF_inj hk hm ?_) h
    unfold keyF at c ⊢
    simp only [Lit.sameKey, beq_iff_eq] at c
    rw [c]
set_option maxRecDepth 100000 in
set_option maxHeartbeats 16000000 in
theorem servedByMany_any (zs : List Nat) (hb0 : ∀ z ∈ zs, z < 4096) (hl : zs.length ≤ 6) (q : Nat) (qi : Int) (hq : qi = (q : Int)) (a : Option Addr) (cap : Nat) (w : World) (hI : IIn w a (zs.map (fun z : Nat => (z : Int)))) :
    Calls Try.prog 44 #[.slice a zs.length cap, .int .i64 qi] w fun e w' => e = .returned (.agg (bvs (ofB (fun f => decide (q ≤ cntZ zs f)) 12)).toArray) ∧ Below w.heap.size w w' := by
  have HI : Hid (IIn w a (zs.map (fun z : Nat => (z : Int)))) := hI
  have HQ : Hid (qi = (q : Int)) := hq
  clear hI hq
  obtain ⟨W1, hW1⟩ : ∃ W1, W1 = (w.alloc (.cells (bvs 0).toArray 61)).alloc (.cells (cvs (fun _ => 0)).toArray 81) := ⟨_, rfl⟩
  obtain ⟨b4, hb4⟩ : ∃ b4, b4 = w.heap.size := ⟨_, rfl⟩
  obtain ⟨b5, hb5⟩ : ∃ b5, b5 = b4 + 1 := ⟨_, rfl⟩
  have F4 : Hid (Blk W1 b4 (bvs 0)) := by rw [hW1]; exact (Blk.at_ w (bvs 0).toArray _ _ hb4).alloc _
  have F5 : Hid (Blk W1 b5 (cvs (fun _ => 0))) := by rw [hW1]; exact Blk.at_ _ (cvs (fun _ => 0)).toArray _ _ (by simp; omega)
  have FB : Hid (Below w.heap.size w W1) := by rw [hW1]; exact ((Below.refl _ _).alloc (Nat.le_refl _) _).alloc (by simp) _
  have l45 : b4 < b5 := by omega
  have le4 : w.heap.size ≤ b4 := by omega
  have ez := zero_bvs
  have ec := cvs_zero
  refine (callsIn_wide (n := 5)).1 ?_
  refine callsIn_of_wp_marks Try.func44 rfl trivial ?_ rfl
  simp only [Try.ntmps44, List.size_toArray, List.length_cons, List.length_nil, Nat.reduceAdd, Nat.reduceSub, Array.replicate_succ, Array.replicate_zero, List.push_toArray, List.append_toArray, List.nil_append, List.cons_append]
  refine wpIn_wide.2 ?_
  go_upto_region 2 with fail
  rw [← hb4, ← hb5, ← hW1]
  clear hb4 hb5 hW1 ez ec
  go_wp2_with (first | (go_at_call 64; have F5' := F5; refine (carsByZone_any zs hb0 (by omega) a cap _ (HI.out.below FB.out)).mono ?_; rintro e w1 ⟨mb, D, rfl, hmb, hmz, htz, hb⟩; have F4 : Hid (Blk w1 b4 (bvs 0)) := F4.out.below hb F4.out.lt; have F5 : Hid (Blk w1 b5 (cvs (fun _ => 0))) := F5.out.below hb F5.out.lt; have FB : Hid (Below w.heap.size w w1) := FB.out.trans (hb.mono FB.out.size); have HMZ : Hid (MapZ w1 mb zs.length D) := hmz; have F5x := Nat.lt_of_lt_of_le F5'.out.lt (Nat.le_refl _); clear hb hmz) | (at_range; refine wpList_range_own _ rfl _ 82 rfl 61 2 lawF undZM RVZ mb zs.length D rfl HMZ.out.o ?_; intro w2 hrg0 hg0 hs0))
  obtain ⟨rb, hrb⟩ : ∃ rb, rb = w1.heap.size := ⟨_, rfl⟩
  have F4 : Hid (Blk w2 b4 (bvs 0)) := F4.out.grown hg0 (by simp)
  have F5 : Hid (Blk w2 b5 (cvs (fun _ => 0))) := F5.out.grown hg0 (by simp)
  have FB : Hid (Below w.heap.size w w2) := FB.out.grown hg0 FB.out.size (fun j e => by cases e)
  have lmr : mb < rb := by rw [hrb]; exact HMZ.out.lt
  have l5m : b5 < mb := Nat.lt_of_lt_of_le F5x hmb
  have l4r : b5 < rb := by omega
  rw [← hrb] at hrg0
  go_frame
  rw [← hrb]
  have HT : Hid (TZ D zs) := htz
  clear hg0 hs0 hrb HMZ htz hmb
  refine wp_loop (fun a' W => ∃ (u6 u7 u15 u16 u17 u18 u19 u20 u21 : Value) (Ds ks : List Nat) (left : Lit → Bool) (cnt : Nat), (GoneZ zs left ks ∧ W.ranges Try.prog 61 RVZ mb rb zs.length D left cnt ∧ Blk W b5 (cvs (fun f => tallyN zs f ks)) ∧ Blk W b4 (bvs 0) ∧ MkZ W (rb + 1) Ds ∧ Below w.heap.size w W) ∧ a' = { tmps := #[.slice a zs.length cap, .int .i64 qi, undef, undef, .pointer (some ⟨b4, 0, none⟩), .pointer (some ⟨b5, 0, none⟩), u6, u7, undef, undef, undef, undef, .slice a zs.length cap, .map (some mb), .pointer (some ⟨rb, 0, none⟩), u15, u16, u17, u18, u19, u20, u21, undef, undef, undef, undef, undef, undef, undef, undef, undef, undef, undef, undef, undef, undef, undef, undef, undef, undef, undef], defers := marksZ Ds }) (fun _ W => W.rangeLeft mb rb) ?_ ?_
  · exact ⟨undef, undef, undef, undef, undef, undef, undef, undef, undef, [], [], _, _, ⟨⟨List.nodup_nil, (fun _ h => absurd h (by simp)), (fun m hm => Or.inl (HT.out.y m hm).1), (fun _ h => absurd h (by simp))⟩, hrg0, F5.out, F4.out, ⟨List.nodup_nil, (fun _ h => absurd h (by simp))⟩, FB.out⟩, rfl⟩
  rintro _ wr ⟨u6, u7, u15, u16, u17, u18, u19, u20, u21, Ds, ks, left, cnt, ⟨hG, hrg, hf5, hf4, hMk, hB⟩, rfl⟩
  clear F4 F5 FB hrg0
  have HG : Hid (GoneZ zs left ks) := hG
  have F5 : Hid (Blk wr b5 (cvs (fun f => tallyN zs f ks))) := hf5
  have F4 : Hid (Blk wr b4 (bvs 0)) := hf4
  have HMk : Hid (MkZ wr (rb + 1) Ds) := hMk
  have FB : Hid (Below w.heap.size w wr) := hB
  have hlr := hrg.owns.lt
  have HMk3 : ∀ E ∈ Ds, E < wr.heap.size := fun E hE => hMk.lt hE
  clear hG hf5 hf4 hMk hB
  go_wp2_with (first | (at_next; refine wpList_next_ranges _ rfl _ rfl 61 lawF RVZ (fun v : Value => v) (fun v : Value => v) (fun key kl hk => ⟨key, rfl⟩) (fun v y hv => ⟨v, rfl⟩) mb rb zs.length D left cnt rfl hrg ?_ ?_) | fail)
  · intro _ hl0
    have HT2 : Hid (cvs (fun f => tallyN zs f ks) = cvs (fun f => cntZ zs f)) := by
      show _ = _
      congr 1
      funext f
      exact tally_all f zs ks HG.out.nd (fun z hz => (HG.out.l z hz).resolve_left (by rw [hl0]; simp))
    rw [HT2.out] at F5
    obtain ⟨b9, hb9⟩ : ∃ b9, b9 = wr.heap.size := ⟨_, rfl⟩
    obtain ⟨w9, hw9⟩ : ∃ w9, w9 = wr.alloc (.cells (bvs 0).toArray 61) := ⟨_, rfl⟩
    have ez := zero_bvs
    have F9 : Hid (Blk w9 b9 (bvs 0)) := by rw [hw9]; exact Blk.at_ wr (bvs 0).toArray _ _ hb9
    have F4 : Hid (Blk w9 b4 (bvs 0)) := by rw [hw9]; exact F4.out.alloc _
    have F5 : Hid (Blk w9 b5 (cvs (fun f => cntZ zs f))) := by rw [hw9]; exact F5.out.alloc _
    have FB : Hid (Below w.heap.size w w9) := by rw [hw9]; exact FB.out.alloc FB.out.size _
    have HMk : Hid (MkZ w9 (rb + 1) Ds) := ⟨HMk.out.nd, fun E hE => ⟨(HMk.out.at_ E hE).1, by rw [hw9]; exact (Below.heap_alloc _ _ E (HMk.out.lt hE)).trans (HMk.out.at_ E hE).2⟩⟩
    have l49 : b4 < b9 := by rw [hb9]; exact Nat.lt_trans l45 (by omega)
    have nm9 : ∀ E ∈ Ds, E < b9 := fun E hE => by rw [hb9]; exact HMk3 E hE
    go_upto_region 9 with fail
    rw [← hw9, ← hb9]
    clear hw9 hb9 ez hl0 HT2 HMk3 hlr hrg HG
    go_wp2_with (refine load_arr 81 _ undCN (cvs_info _) F5.out rfl rfl rfl ?_)
    clear F5
    go_loopw [30] (fun ii wx => ∃ i : Nat, ii = .int .i64 (i : Int) ∧ i ≤ 12 ∧ Blk wx b9 (bvs (ofB (fun f => decide (q ≤ cntZ zs f)) i)) ∧ Blk wx b4 (bvs 0) ∧ MkZ wx (rb + 1) Ds ∧ Below w.heap.size w wx) (fun ii _ => 12 - (intOf ii).toNat)
    case atStart => exact ⟨0, rfl, by omega, F9.out, F4.out, HMk.out, FB.out⟩
    case round =>
      obtain ⟨i, rfl, hi, h9, h4, hM, hB⟩ := hrel
      clear F9 F4 HMk FB
      have F9 : Hid (Blk wr b9 (bvs (ofB (fun f => decide (q ≤ cntZ zs f)) i))) := h9
      have F4 : Hid (Blk wr b4 (bvs 0)) := h4
      have HMk : Hid (MkZ wr (rb + 1) Ds) := hM
      have FB : Hid (Below w.heap.size w wr) := hB
      clear h9 h4 hM hB
      by_cases hlt : i < 12
      · have hix := ixCN (f := fun f => cntZ zs f) hlt
        obtain ⟨v, hv⟩ : ∃ v : Int, ((cntZ zs i : Nat) : Int) = v := ⟨_, rfl⟩
        (try dsimp only at hix)
        rw [hv] at hix
        have HS := ofB_succ (fun f => decide (q ≤ cntZ zs f)) i
        have HS2 : Hid (ofB (fun f => decide (q ≤ cntZ zs f)) (i + 1) = ofB (fun f => decide (q ≤ cntZ zs f)) i ||| (if decide (q ≤ cntZ zs i) = true then 2 ^ i else 0)) := HS
        clear HS
        have hi2 : (i : Int) < 12 := by omega
        obtain ⟨M, hM⟩ : ∃ M, ofB (fun f => decide (q ≤ cntZ zs f)) i = M := ⟨_, rfl⟩
        rw [hM] at HS2 F9
        clear hM
        by_cases hge : q ≤ cntZ zs i
        · have hd : decide (qi ≤ v) = true := decide_eq_true (by rw [HQ.out, ← hv]; omega)
          have HS3 : Hid (ofB (fun f => decide (q ≤ cntZ zs f)) (i + 1) = M ||| 2 ^ i) := by show _ = _; rw [HS2.out, if_pos (decide_eq_true hge)]
          have c9 := F9.out.c i _ (bvs_get hlt)
          have f9 := F9.out.f i (by rw [bvs_len]; omega)
          clear hge hv HS2
          go_wp2_with fail
          go_roundw
          case rel => exact ⟨i + 1, by simp, by omega, by rw [HS3.out, ← bvs_set hlt]; exact F9.out.set (k := i) _ (by rw [bvs_len]; omega), F4.out.other (by omega), ⟨HMk.out.nd, fun E hE => ⟨(HMk.out.at_ E hE).1, (Below.heap_setCell _ _ _ E (by show E ≠ b9; have := nm9 E hE; omega)).trans (HMk.out.at_ E hE).2⟩⟩, FB.out.setCell (p := ⟨b9, i, none⟩) (by show w.heap.size ≤ b9; omega) _⟩
          case measure => simp [intOf]; omega
        · have hd : decide (qi ≤ v) = false := decide_eq_false (by rw [HQ.out, ← hv]; omega)
          have HS3 : Hid (ofB (fun f => decide (q ≤ cntZ zs f)) (i + 1) = M) := by show _ = _; rw [HS2.out, if_neg (by simpa using hge), Nat.or_zero]
          clear hge hv HS2
          go_wp2_with fail
          go_roundw
          case rel => exact ⟨i + 1, by simp, by omega, by rw [HS3.out]; exact F9.out, F4.out, HMk.out, FB.out⟩
          case measure => simp [intOf]; omega
      · obtain rfl : i = 12 := by omega
        obtain ⟨M, hM⟩ : ∃ M, ofB (fun f => decide (q ≤ cntZ zs f)) 12 = M := ⟨_, rfl⟩
        have HM : Hid (ofB (fun f => decide (q ≤ cntZ zs f)) 12 = M) := hM
        rw [hM] at F9
        clear hM
        go_wp2_with (first | (refine load_arr 61 _ undFS (bvs_info _) F9.out rfl rfl rfl ?_) | (refine store_blk (bvs M) 61 _ _ (bvs_info M) (by rw [bvs_size, bvs_size]) (bvs_one M) F4.out rfl rfl rfl rfl ?_))
        refine leaves_marksZ (B := rb + 1) Ds _ ⟨HMk.out.nd, fun E hE => ⟨(HMk.out.at_ E hE).1, (setRow_other _ b4 E _ (by have := (HMk.out.at_ E hE).1; omega)).trans (HMk.out.at_ E hE).2⟩⟩ (fun W' hb => ?_)
        exact ⟨.agg (bvs M).toArray, ((F4.out.row (bvs M)).below hb (by omega)).resA _ Try.results44 undFS (bvs_info M) rfl, by rw [HM.out], (below_row FB.out le4 _).trans (hb.mono (by omega))⟩
  · intro x c kl y1 y2 w3 cnt1 hkey hlk hv hat hrg1 hlt hg1 hs1 hen
    try dsimp only at hkey hv hen
    obtain ⟨m, hm, rfl⟩ := HT.out.only kl (has_true_of_atKey hat)
    have ex : x = .agg (bvs m).toArray := lawF.inj hkey (keyOf_F m)
    subst ex
    have ec : c = .int .i64 (zs.count m : Nat) := by
      have e1 := (HT.out.y m hm).2 y1
      rw [hat] at e1
      have e2 := congrArg Prod.fst (Option.some.inj hv)
      dsimp only at e2
      rw [← e2] at e1
      injection e1
    subst ec
    have hmk : m ∉ ks := fun q => by rw [HG.out.r m q] at hlk; cases hlk
    have m4 := hb0 m hm
    have F4 : Hid (Blk w3 b4 (bvs 0)) := F4.out.grown hg1 (by simp; omega)
    have F5 : Hid (Blk w3 b5 (cvs (fun f => tallyN zs f ks))) := F5.out.grown hg1 (by simp; omega)
    have FB : Hid (Below w.heap.size w w3) := FB.out.grown hg1 FB.out.size (fun j e => by cases e; omega)
    have HMk : Hid (MkZ w3 (rb + 1) Ds) := HMk.out.grown hg1 (by omega)
    have HMk3 : ∀ E ∈ Ds, E < w3.heap.size := fun E hE => HMk.out.lt hE
    have hrlt : rb < w3.heap.size := rng_ltr hrg1
    clear hs1 hat hv hkey
    have P6 : Hid (Blk ((w3.alloc (.cells (bvs 0).toArray 61)).alloc (.cells #[.int .i64 0] 2)) w3.heap.size (bvs 0)) := (Blk.at_ w3 (bvs 0).toArray _ _ rfl).alloc _
    have P7 : Hid (Blk ((w3.alloc (.cells (bvs 0).toArray 61)).alloc (.cells #[.int .i64 0] 2)) (w3.heap.size + 1) [.int .i64 0]) := Blk.at_ _ #[.int .i64 0] _ _ (by simp)
    have ez := zero_bvs
    go_upto_region 5 with (refine store_blk (bvs m) 61 _ _ (bvs_info m) (by rw [bvs_size, bvs_size]) (bvs_one m) P6.out rfl rfl rfl rfl ?_; have P7 : Hid (Blk (((w3.alloc (.cells (bvs 0).toArray 61)).alloc (.cells #[.int .i64 0] 2)).setRow w3.heap.size (bvs m).toArray) (w3.heap.size + 1) [.int .i64 0]) := P7.out.row_other (by omega) _; have k7 := P7.out.c 0 _ rfl; have kf7 := P7.out.f 0 (by simp))
    obtain ⟨C, hC⟩ : ∃ C, zs.count m = C := ⟨_, rfl⟩
    have C6 : C ≤ 6 := by rw [← hC]; exact Nat.le_trans List.count_le_length hl
    have HCm : Hid (zs.count m = C) := hC
    obtain ⟨b6, hb6⟩ : ∃ b6, b6 = w3.heap.size := ⟨_, rfl⟩
    obtain ⟨b7, hb7⟩ : ∃ b7, b7 = b6 + 1 := ⟨_, rfl⟩
    obtain ⟨w4, hw4⟩ : ∃ w4, w4 = (((w3.alloc (.cells (bvs 0).toArray 61)).alloc (.cells #[.int .i64 0] 2)).setRow w3.heap.size (bvs m).toArray).setCell ⟨w3.heap.size + 1, 0, none⟩ (.int .i64 (zs.count m : Nat)) := ⟨_, rfl⟩
    have F6 : Hid (Blk w4 b6 (bvs m)) := by rw [hw4, hb6]; exact (P6.out.row (bvs m)).other (by omega)
    have F7 : Hid (Blk w4 b7 [.int .i64 (C : Int)]) := by
      have z := P7.out.set (k := 0) (.int .i64 (zs.count m : Nat)) (by simp)
      rw [hw4, hb7, hb6, ← hC]; exact z
    have hg4 : w3.grownBy w4 none := by
      rw [hw4]
      refine ⟨rfl, rfl, rfl, by simp; omega, fun k hk _ => ?_⟩
      refine (Below.heap_setCell _ _ _ k (by show k ≠ w3.heap.size + 1; omega)).trans ((setRow_other _ _ k _ (by omega)).trans ?_)
      exact (Below.heap_alloc _ _ k (by simp; omega)).trans (Below.heap_alloc _ _ k hk)
    have F4 : Hid (Blk w4 b4 (bvs 0)) := F4.out.grown hg4 (by simp)
    have F5 : Hid (Blk w4 b5 (cvs (fun f => tallyN zs f ks))) := F5.out.grown hg4 (by simp)
    have l5b : b5 < w3.heap.size := by have := hrg1.owns.lt; omega
    have lr6 : rb < b6 := by rw [hb6]; exact hrlt
    have FB : Hid (Below w.heap.size w w4) := FB.out.grown hg4 FB.out.size (fun j e => by cases e)
    have E43 : Hid (w4.heap.size = b6 + 2) := by show w4.heap.size = _; rw [hw4, hb6]; simp
    have E67 : Hid (b7 = b6 + 1) := hb7
    have HR4 : Hid (w4.ranges Try.prog 61 RVZ mb rb zs.length D (fun z => left z && !z.sameKey (keyF m)) cnt1) := rngZ_below hrg1 (hg4.block mb hrg1.owns.lt (by simp)) (hg4.block rb hrlt (by simp))
    have HMk : Hid (MkZ w4 (rb + 1) Ds) := ⟨HMk.out.nd, fun E hE => ⟨(HMk.out.at_ E hE).1, (hg4.block E (HMk.out.lt hE) (by simp)).trans (HMk.out.at_ E hE).2⟩⟩
    rw [hC, ← hb6, ← hb7]
    rw [hC, hb6.symm] at hw4
    have hw5 : w4 = (((w3.alloc (.cells (bvs 0).toArray 61)).alloc (.cells #[.int .i64 0] 2)).setRow b6 (bvs m).toArray).setCell ⟨b7, 0, none⟩ (.int .i64 (C : Nat)) := by rw [hb7]; exact hw4
    rw [← hw5]
    have lm6 : mb < b6 := by omega
    have L6 : ∀ E ∈ Ds, E < b6 := fun E hE => by rw [hb6]; exact HMk3 E hE
    clear P6 P7 k7 kf7 hw4 hw5 hg4 hC hb6 hen hrg1 hg1 ez hrlt hb7
    go_wp2_with (first | (refine load_arr 61 _ undFS (bvs_info m) F6.out rfl rfl rfl ?_) | (go_at_call 65; refine (floors_any m _).mono ?_; rintro e w5 ⟨rfl, hw5⟩))
    obtain ⟨b8, hb8⟩ : ∃ b8, b8 = w4.heap.size := ⟨_, rfl⟩
    have F8 : Hid (Blk w5 b8 (bvs m)) := by rw [hw5]; exact Blk.at_ w4 (bvs m).toArray _ _ hb8
    have F4 : Hid (Blk w5 b4 (bvs 0)) := by rw [hw5]; exact F4.out.alloc _
    have F5 : Hid (Blk w5 b5 (cvs (fun f => tallyN zs f ks))) := by rw [hw5]; exact F5.out.alloc _
    have F7 : Hid (Blk w5 b7 [.int .i64 (C : Int)]) := by rw [hw5]; exact F7.out.alloc _
    have FB : Hid (Below w.heap.size w w5) := by rw [hw5]; exact FB.out.alloc FB.out.size _
    have hg5 : ∀ k, k < w4.heap.size → w5.heap[k]? = w4.heap[k]? := fun k hk => by rw [hw5]; exact Below.heap_alloc _ _ k hk
    have HR5 : Hid (w5.ranges Try.prog 61 RVZ mb rb zs.length D (fun z => left z && !z.sameKey (keyF m)) cnt1) := rngZ_below HR4.out (hg5 mb (by have := E43.out; omega)) (hg5 rb (by have := E43.out; omega))
    have HMk : Hid (MkZ w5 (rb + 1) Ds) := ⟨HMk.out.nd, fun E hE => ⟨(HMk.out.at_ E hE).1, (hg5 E (HMk.out.lt hE)).trans (HMk.out.at_ E hE).2⟩⟩
    have l85 : b8 < w5.heap.size := F8.out.lt
    have l78 : b7 < b8 := by have := E43.out; have := E67.out; omega
    have l68 : b6 < b8 := by have := E43.out; omega
    have l67 : b6 < b7 := by have := E67.out; omega
    (try rw [← hw5])
    rw [← hb8]
    clear hw5 hg5 F6 HR4 E43 E67 hb8
    have tb := fun f => tally_le f zs ks HG.out.nd
    refine (wpIn_wide (n := 5)).1 ?_
    refine wpIn_rangeFunc_ownG rfl (by omega) (gf := 79) (lb := #[.pointer (some ⟨b8, 0, none⟩)]) rfl trivial (enters_of Try.func79 (by kernel_rfl) rfl)
      (floors_stops _ b8 m _ F8.out) keepB_t (keepB_b F8.out.lt) (Below.refl _ _) (fun _ => rfl)
      (fun pre W => Blk W b5 (cvs (fun f => tallyN zs f ks + C * cntF pre f)) ∧ w5.grownBy W (some b5))
      (fun _ _ _ => False)
      (OwnFrom.and (blk_own _ b5 (fun pre => cvs (fun f => tallyN zs f ks + C * cntF pre f))) ownFrom_grown)
      (fun _ _ _ _ _ hs _ _ => hs)
      ⟨by have z := F5.out; simpa [cntF] using z, ⟨rfl, rfl, rfl, Nat.le_refl _, fun _ _ _ => rfl⟩⟩
      (fun x => { tmps := #[.slice a zs.length cap, .int .i64 qi, undef, undef, .pointer (some ⟨b4, 0, none⟩), .pointer (some ⟨b5, 0, none⟩), .pointer (some ⟨b6, 0, none⟩), .pointer (some ⟨b7, 0, none⟩), .int .i64 (x.1 : Int), undef, undef, undef, .slice a zs.length cap, .map (some mb), .pointer (some ⟨rb, 0, none⟩), .tuple #[.bool true, .agg (bvs m).toArray, .int .i64 (C : Int)], .bool true, .tuple #[.agg (bvs m).toArray, .int .i64 (C : Int)], .agg (bvs m).toArray, .int .i64 (C : Int), .agg (bvs m).toArray, .func (.func 79) #[] #[.pointer (some ⟨b8, 0, none⟩)], .int .i64 (x.1 : Int), undef, undef, undef, undef, undef, undef, undef, undef, undef, undef, undef, undef, undef, undef, undef, undef, undef, undef], defers := [] }) ?assign ?body ?done ?stop
    case assign =>
      intro l x W K hK
      gi_wp2
      exact hK
    case body =>
      rintro l pre ⟨i, hi⟩ W ⟨h5, hgw⟩ hlen
      have G5 : Hid (Blk W b5 (cvs (fun f => tallyN zs f ks + C * cntF pre f))) := h5
      have G7 : Hid (Blk W b7 [.int .i64 (C : Int)]) := F7.out.grown hgw (by simp; omega)
      have GR : Hid (RdZ b5 b8 w5 W W) := ⟨KeepsOthers.refl _, rfl, hgw⟩
      have tbi := tb i
      have cb : C * cntF pre i ≤ 6 * 12 := Nat.mul_le_mul C6 (Nat.le_trans (cntF_le pre i) (by omega))
      obtain ⟨A, hA⟩ : ∃ A, tallyN zs i ks + C * cntF pre i = A := ⟨_, rfl⟩
      have A1 : A ≤ 100 := by omega
      have HST : Hid ((cvs (fun f => tallyN zs f ks + C * cntF pre f)).set i (.int .i64 ((A : Int) + (C : Int))) = cvs (fun f => tallyN zs f ks + C * cntF (pre ++ [⟨i, hi⟩]) f)) := by
        have z := cvs_set (f := fun f => tallyN zs f ks + C * cntF pre f) (g := fun f => tallyN zs f ks + C * cntF (pre ++ [⟨i, hi⟩]) f) hi (by (try dsimp only); rw [cntF_snoc, if_pos rfl, Nat.mul_add]; omega) (fun j hj => by (try dsimp only); rw [cntF_snoc, if_neg (fun e => hj e.symm)]; rfl)
        (try dsimp only at z)
        rw [cntF_snoc, if_pos rfl, Nat.mul_add, Nat.mul_one, ← Nat.add_assoc, hA, Int.natCast_add] at z
        exact z
      have ew : IntKind.i64.wrap ((A : Int) + (C : Int)) = (A : Int) + (C : Int) := IntWalk.i64_in _ (by omega)
      have hi2 : (i : Int) < 12 := by omega
      clear h5 hgw hlen tbi cb
      gi_wp2_with fail
      have G5 : Hid (Blk W.drew b5 (cvs (fun f => tallyN zs f ks + C * cntF pre f))) := G5.out.below (Below.refl _ _).drew G5.out.lt
      have G7 : Hid (Blk W.drew b7 [.int .i64 (C : Int)]) := G7.out.below (Below.refl _ _).drew G7.out.lt
      have GR : Hid (RdZ b5 b8 w5 W W.drew) := GR.out.drew
      refine region_round (by rintro ⟨_, _, h⟩; exact h) (by kernel_rfl) (S := (fun w'' => Blk w'' b7 ([.int .i64 (C : Int)]))) (by kernel_rfl) (by (try dsimp only); first | exact G7.out | go_keep) (fun hHeld => ?_)
      obtain ⟨v_1, hw1⟩ : ∃ v_1, v_1 = W.drew := ⟨_, rfl⟩
      have G5 : Hid (Blk v_1 b5 (cvs (fun f => tallyN zs f ks + C * cntF pre f))) := by rw [hw1]; exact G5.out
      have G7 : Hid (Blk v_1 b7 [.int .i64 (C : Int)]) := by rw [hw1]; exact G7.out
      have GR : Hid (RdZ b5 b8 w5 W v_1) := by rw [hw1]; exact GR.out
      rw [← hw1] at hHeld ⊢
      clear hw1
      refine tkz 0 rfl ?_
      refine tkz 1 rfl ?_
      refine tkz 3 rfl ?_ (hy := Or.inl ⟨by kernel_rfl, by (intro wx hSw; have hq0_0 := hSw.c 0 _ rfl; (try dsimp only at hSw); go_simp <;> with_reducible rfl)⟩)
      refine wpAnyH_ready (rs := [2]) (by kernel_rfl) (by simp) ?_
      refine (AllReadyH.cons rfl (fun K hK => ?_) AllReadyH.nil)
      have c5 := G5.out.c i _ (cvs_get hi)
      rw [hA] at c5
      go_simp
      refine hK.out _ _ (by (try dsimp only); first | exact G7.out | go_keep) (fun hHeld => ?_)
      clear hK K
      try simp only [Act.put, List.getElem_toArray, List.getElem_cons_succ, List.getElem_cons_zero, List.setIfInBounds_toArray, List.set_cons_zero, List.set_cons_succ]
      refine tkz 4 rfl ?_
      refine tkz 5 rfl ?_
      refine wpAnyH_ready (rs := [6]) (by kernel_rfl) (by simp) ?_
      refine (AllReadyH.cons rfl (fun K hK => ?_) AllReadyH.nil)
      have c5 := G5.out.c i _ (cvs_get hi)
      have f5 := G5.out.f i (by rw [cvs_len]; omega)
      go_simp
      obtain ⟨v_2, hw2⟩ : ∃ v_2, v_2 = v_1.setCell ⟨b5, i, none⟩ (.int .i64 ((A : Int) + (C : Int))) := ⟨_, rfl⟩
      change K _ (v_1.setCell ⟨b5, i, none⟩ (.int .i64 ((A : Int) + (C : Int))))
      rw [← hw2]
      clear c5 f5
      have G5 : Hid (Blk v_2 b5 (cvs (fun f => tallyN zs f ks + C * cntF (pre ++ [⟨i, hi⟩]) f))) := by rw [hw2]; exact by have z := G5.out.set (k := i) (.int .i64 ((A : Int) + (C : Int))) (by rw [cvs_len]; omega); rw [HST.out] at z; exact z
      have G7 : Hid (Blk v_2 b7 [.int .i64 (C : Int)]) := by rw [hw2]; exact G7.out.other (by omega)
      have GR : Hid (RdZ b5 b8 w5 W v_2) := by rw [hw2]; exact GR.out.set (by omega) _
      clear hw2
      refine hK.out _ _ (by (try dsimp only); first | exact G7.out | go_keep) (fun hHeld => ?_)
      clear hK K
      try simp only [Act.put, List.getElem_toArray, List.getElem_cons_succ, List.getElem_cons_zero, List.setIfInBounds_toArray, List.set_cons_zero, List.set_cons_succ]
      refine wpAnyH_done (by kernel_rfl) ?_ _
      exact ⟨GR.out.k.from _, GR.out.p, G5.out, GR.out.g⟩
    case done =>
      rintro E ys W hE rfl ⟨h5, hgw⟩ hK
      have ne : ∀ k, k < w5.heap.size → k ≠ b5 → W.heap[k]? = w5.heap[k]? := fun k hk hn => hgw.block k hk (fun e => hn (Option.some.inj e))
      have G5 : Hid (Blk W b5 (cvs (fun f => tallyN zs f (ks ++ [m])))) := by
        have e : (fun f => tallyN zs f ks + C * cntF (upF m 12) f) = fun f => tallyN zs f ks + C * (if f < 12 ∧ m.testBit f = true then 1 else 0) := by funext f; rw [cntF_up m f 12 (Nat.le_refl _)]
        rw [e] at h5
        have e2 : cvs (fun f => tallyN zs f ks + C * (if f < 12 ∧ m.testBit f = true then 1 else 0)) = cvs (fun f => tallyN zs f (ks ++ [m])) := by
          unfold cvs
          refine List.map_congr_left fun f hf => ?_
          have hf' := List.mem_range.1 hf
          (try dsimp only)
          rw [tally_snoc, HCm.out]
          by_cases hb : m.testBit f = true
          · rw [if_pos ⟨hf', hb⟩, if_pos hb, Nat.mul_one]
          · rw [if_neg (fun c => hb c.2), if_neg hb, Nat.mul_zero]
        rw [e2] at h5
        exact h5
      have HR : Hid (W.ranges Try.prog 61 RVZ mb rb zs.length D (fun z => left z && !z.sameKey (keyF m)) cnt1) := rngZ_below HR5.out (ne mb (by omega) (by omega)) (ne rb (by omega) (by omega))
      have G4 : Hid (Blk W b4 (bvs 0)) := F4.out.of (ne b4 (by omega) (by omega))
      have GM : Hid (MkZ W (rb + 1) (E :: Ds)) := by
        refine ⟨List.nodup_cons.2 ⟨fun q => ?_, HMk.out.nd⟩, fun k hk => ?_⟩
        · have := HMk.out.lt q; omega
        · rcases List.mem_cons.1 hk with rfl | hk
          · exact ⟨by omega, hK⟩
          · have := (HMk.out.at_ k hk).1
            exact ⟨this, (ne k (HMk.out.lt hk) (by omega)).trans (HMk.out.at_ k hk).2⟩
      have GB : Hid (Below w.heap.size w W) := FB.out.grown hgw FB.out.size (fun j e => by cases e; omega)
      have GG : Hid (GoneZ zs (fun z => left z && !z.sameKey (keyF m)) (ks ++ [m])) := by
        refine ⟨List.nodup_append.2 ⟨HG.out.nd, (by simp), fun x hx y hy => by rw [List.mem_singleton.1 hy]; exact fun e => hmk (e ▸ hx)⟩, fun k hk => ?_, fun k hk => ?_, fun k hk => ?_⟩
        · rcases List.mem_append.1 hk with h | h
          · exact HG.out.sub k h
          · rw [List.mem_singleton.1 h]; exact hm
        · by_cases e : k = m
          · exact Or.inr (by simp [e])
          · rcases HG.out.l k hk with h | h
            · exact Or.inl (by (try dsimp only); rw [h, same_no (hb0 k hk) m4 e]; rfl)
            · exact Or.inr (List.mem_append_left _ h)
        · (try dsimp only)
          rcases List.mem_append.1 hk with h | h
          · rw [HG.out.r k h]; rfl
          · rw [List.mem_singleton.1 h, same_yes]; simp
      refine ⟨⟨_, _, _, _, _, _, _, _, _, E :: Ds, ks ++ [m], _, cnt1, ⟨GG.out, HR.out, G5.out, G4.out, GM.out, GB.out⟩, rfl⟩, ?_⟩
      rw [rng_left HR.out, rng_left hrg]
      exact hlt
    case stop =>
      rintro E c pre W _ _ h _
      exact h.elim
end Go.Proofs.Ytnpnlckdggakmaa
