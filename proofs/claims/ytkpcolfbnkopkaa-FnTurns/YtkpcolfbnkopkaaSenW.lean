/-
  FnTurns: turns add up over the wheel's end.
-/
import Derived.Test.YtkpcolfbnkopkaaSenP
import Derived.Test.YtkpcolfbnkopkaaSenT
import Derived.Test.YtkpcolfbnkopkaaAt
import Derived.Deep.RegionHeld3
import Derived.BigGuardPart
namespace Go.Proofs.Ytkpcolfbnkopkaa
open Go.RowKit Pl
set_option linter.unusedSimpArgs false
set_option linter.unusedVariables false

theorem lwAtT (a : Option Addr) (len cap : Nat) (i n : Int) (w : World) (h0 : 0 ≤ i) (hi : i ≤ 1000000) (hn : 2 ≤ n) (hn2 : n ≤ 1000000000) (sb : Nat) (hc : CodeIn w sb a len) :
    Calls Try.prog 15 #[.slice a len cap, .int .i64 i, .int .i64 n] w fun e w' => ∃ v : Nat, e = .returned (.int .i64 v) ∧ (v : Int) < n ∧ Below w.heap.size w w' := by
  refine (lwAt_int sb a len cap i n w h0 hi hn hn2 hc).mono ?_
  rintro e w' ⟨v, k, he, hv, hw⟩
  exact ⟨v, he, hv, below_drawn (Below.refl _ _) hw⟩
theorem turn_back {A D : Int} (h1 : 0 ≤ A) (h2 : A ≤ 65535) (h3 : -32768 ≤ D) (h4 : D ≤ 32767) : turnP A ((A + D + 65536) % 65536) = D := by
  unfold turnP
  (repeat' split) <;> omega
theorem sumN_app {l : List Int} {y : Int} : ∀ i, i ≤ l.length → sumN (l ++ [y]) i = sumN l i
  | 0, _ => rfl
  | 1, _ => rfl
  | i + 2, hi => by
    unfold sumN
    rw [sumN_app (i + 1) (by omega), List.getD_eq_getElem?_getD, List.getD_eq_getElem?_getD, List.getD_eq_getElem?_getD, List.getD_eq_getElem?_getD, List.getElem?_append_left (by omega), List.getElem?_append_left (by omega)]
theorem sumN_step {l : List Int} {A D : Int} {k : Nat} (hl : l.length = k + 1) (ha : l[k]? = some A) (h1 : 0 ≤ A) (h2 : A ≤ 65535) (h3 : -32768 ≤ D) (h4 : D ≤ 32767) : sumN (l ++ [(A + D + 65536) % 65536]) (k + 2) = sumN l (k + 1) + D := by
  show sumN (l ++ [_]) (k + 1) + turnP _ _ = _
  rw [sumN_app (k + 1) (by omega), List.getD_eq_getElem?_getD, List.getD_eq_getElem?_getD, List.getElem?_append_left (by omega), ha, List.getElem?_append_right (by omega), show k + 1 - l.length = 0 by omega]
  show sumN l (k + 1) + turnP A ((A + D + 65536) % 65536) = _
  rw [turn_back h1 h2 h3 h4]
theorem allC_app {l : List Int} {y : Int} (h : allC l = true) (hy : isCount y = true) : allC (l ++ [y]) = true := by
  unfold allC at h ⊢
  rw [List.all_append, h]
  simp [hy]
theorem turn_fit {a b : Int} (ha : isCount a = true) (hb : isCount b = true) : (a + turnP a b + 65536) % 65536 = b := by
  obtain ⟨a1, a2⟩ := inB_iff.1 ha
  obtain ⟨b1, b2⟩ := inB_iff.1 hb
  unfold turnP
  (repeat' split) <;> omega
theorem info64p : ∃ i, Try.prog.info? 2 = some i ∧ i.zero = some (.int .i64 0) ∧ i.size = 1 ∧ i.bytes = 8 := by
  obtain ⟨i, h1, h2, h3, h4⟩ := info_parts info64
  exact ⟨i, h1, h2, h3, h4⟩
set_option maxRecDepth 20000 in
set_option maxHeartbeats 32000000 in
theorem turns_walk (a0 : Option Addr) (len0 cap0 : Nat) (w : World) (hc : ∀ sb, w.heap.size ≤ sb → CodeIn w sb a0 len0) (hlt : CodeLt w a0 len0) (hbig : len0 ≤ 1048576) :
    Calls Try.prog 4 #[.slice a0 len0 cap0] w fun e w' => e = .returned (.bool true) ∧ Below w.heap.size w w' := by
  have HC : Hid (∀ sb, w.heap.size ≤ sb → CodeIn w sb a0 len0) := hc
  have HLT : Hid (CodeLt w a0 len0) := hlt
  clear hc hlt
  go_enter Try.func4, Try.ntmps4
  go_wp2_with (go_at_call 9; refine (lwBig_no _ _ _ hbig _).mono ?_; rintro e w' ⟨rfl, hw⟩; obtain rfl := hw.symm; clear hw)
  obtain ⟨i0, hI0⟩ := info64p
  have hI : Hid (Try.prog.info? 2 = some i0 ∧ i0.zero = some (.int .i64 0) ∧ i0.size = 1 ∧ i0.bytes = 8) := hI0
  clear hI0
  refine (lwAtT a0 len0 cap0 0 65536 _ (by omega) (by omega) (by omega) (by omega) w.heap.size (HC.out _ (Nat.le_refl _))).mono ?_
  rintro e w1 ⟨A0, rfl, hA0, hb⟩
  have HC0 : Hid (∀ W, Below w.heap.size w W → CodeIn W w.heap.size a0 len0) := fun W hW => codeIn_below HC.out HLT.out hW _ (Nat.le_refl _)
  have FB : Hid (Below w.heap.size w w1) := hb
  have HC1 : ∀ W, Below w.heap.size w W → w.heap.size ≤ W.heap.size → CodeIn W W.heap.size a0 len0 := fun W hW hs => codeIn_below HC.out HLT.out hW _ hs
  clear hb HC HLT
  go_wp2_with fail
  go_loopw [3, 4, 5, 6] (fun aa vv ss kk wr => ∃ (k : Nat) (A : Int) (l : List Int) (v : Value), aa = .int .i64 A ∧ vv = v ∧ ss = .int .i64 (sumN l (k + 1)) ∧ kk = .int .i64 ((k + 1 : Nat) : Int) ∧ k ≤ 7 ∧ l.length = k + 1 ∧ l[k]? = some A ∧ allC l = true ∧ OwI wr w.heap.size v l ∧ Below w.heap.size w wr) (fun _ _ _ kk _ => 8 - (intOf kk).toNat)
  case atStart =>
    have o := World.ownsRow_lit (base := w.heap.size) (e := 2) (size := 1) w1 #[.int .i64 (A0 : Int)] 1 FB.out.size (by unfold maxLen; omega) rfl
    exact ⟨0, A0, [(A0 : Int)], _, rfl, rfl, rfl, rfl, by omega, rfl, rfl, by simp [allC, isCount]; exact inB_iff.2 (by omega), o, FB.out.alloc FB.out.size _⟩
  case round =>
    obtain ⟨k, A, l, v, rfl, hvv, rfl, rfl, hk, hll, hla, hac, ho, hb⟩ := hrel
    have hvv' := hvv.symm
    subst hvv'
    have FO : Hid (OwI wr w.heap.size v l) := ho
    have FB : Hid (Below w.heap.size w wr) := hb
    have HAC : Hid (allC l = true) := hac
    have HLA : Hid (l[k]? = some A) := hla
    have HLL : Hid (l.length = k + 1) := hll
    have cA := inB_iff.1 (allC_get hac hla)
    have bS := sumN_bd hac (k + 1) (by omega)
    clear ho hb hac hla hll
    by_cases c7 : k < 7
    · have d7 : decide ((k : Int) + 1 < 8) = true := decide_eq_true (by omega)
      go_upto_region 10 with (go_at_call 15; refine (lwAtT a0 len0 cap0 _ 65000 _ (by omega) (by omega) (by omega) (by omega) w.heap.size (HC0.out _ FB.out)).mono ?_; rintro e w2 ⟨x, rfl, hx, hb⟩; have FO : Hid (OwI w2 w.heap.size v l) := FO.out.below hb (fun j hj => (FO.out.lt j hj).2); have FB : Hid (Below w.heap.size w w2) := FB.out.trans (hb.mono FB.out.size); clear hb)
      obtain ⟨D, hD⟩ : ∃ D : Int, (x : Int) - 32500 = D := ⟨_, rfl⟩
      rw [hD]
      have d1 : -32500 ≤ D := by omega
      have d2 : D ≤ 32500 := by omega
      clear hD hx
      obtain ⟨A2, hA2⟩ : ∃ A2, (A + D + 65536) % 65536 = A2 := ⟨_, rfl⟩
      have em : (A + D + 65536).tmod 65536 = A2 := by rw [Int.tmod_eq_emod_of_nonneg (by omega)]; exact hA2
      have HS : Hid (sumN l (k + 1) + D = sumN (l ++ [A2]) (k + 2)) := by
        show _ = _
        rw [← hA2]
        exact (sumN_step HLL.out HLA.out cA.1 cA.2 (by omega) (by omega)).symm
      have c2 : isCount A2 = true := inB_iff.2 (by omega)
      have HN : Hid (allC (l ++ [A2]) = true) := allC_app HAC.out c2
      obtain ⟨S, hS⟩ : ∃ S, sumN l (k + 1) = S := ⟨_, rfl⟩
      rw [hS] at HS bS ⊢
      clear hS
      have lz := FB.out.size
      have hl8 : l.length ≤ 8 := by rw [HLL.out]; omega
      go_wp2_with (at_builtin; go_loud (refine wpList_append_own _ rfl _ _ 30 rfl w.heap.size 2 i0 (.int .i64 0) 1 8 undI64S hI.out.1 hI.out.2.1 hI.out.2.2.1 hI.out.2.2.2 rfl (by omega) _ l.length _ rfl (FO.out.alloc _) ⟨w2.heap.size, 0, none⟩ 1 1 [.int .i64 A2] rfl rfl (one_new w2 A2 _) (one_cell A2) (by unfold maxLen; omega) (by omega) (by simp; omega) ?_); intro v1 w3 ho hg hn; have FO3 : Hid (OwI w3 w.heap.size v1 (l ++ [A2])) := (by unfold OwI; rw [List.length_append]; have e : intsV (l ++ [A2]) = intsV l ++ [.int .i64 A2] := (by simp [intsV]); rw [e]; exact ho); have FB3 : Hid (Below w.heap.size w w3) := (FB.out.alloc FB.out.size _).grown hg (by simp; omega) (fun j hj => (FO.out.lt j hj).1); clear ho hg hn)
      go_roundw
      case rel => exact ⟨k + 1, A2, l ++ [A2], v1, rfl, rfl, by first | rw [← HS.out] | (simp [← HS.out]), by simp, by omega, by rw [List.length_append, HLL.out]; rfl, by rw [List.getElem?_append_right (by rw [HLL.out]; omega), HLL.out, Nat.sub_self]; rfl, HN.out, FO3.out, FB3.out⟩
      case measure => simp [intOf]; omega
    · obtain rfl : k = 7 := by omega
      have d7 : decide ((7 : Int) + 1 < 8) = false := by decide
      rcases FO.out.cases with ⟨_, h0⟩ | ⟨g, cg, e⟩
      · have := HLL.out; rw [h0] at this; simp at this
      subst e
      have h8 : l.length = 8 := HLL.out
      have HP : Hid (sumN l (7 + 1) = pathT l) := by show sumN l 8 = sumN l l.length; rw [h8]
      rw [HP.out] at bS ⊢
      obtain ⟨S, hS⟩ : ∃ S, pathT l = S := ⟨_, rfl⟩
      rw [hS] at bS ⊢
      have CP : ∀ (q : Nat) (W : World), q < 1000 → IIn W (some ⟨g, 0, none⟩) l → Calls Try.prog 16 #[.slice (some ⟨g, 0, none⟩) l.length cg, .int .i64 (1 + (q : Int))] W fun e w' => e = .returned (.agg #[.int .i64 0, .int .i64 (S * (1 + (q : Int)))]) ∧ Below W.heap.size W w' := by
        intro q W hq hi
        have c := implPath_any (some ⟨g, 0, none⟩) cg l (1 + (q : Int)) (by omega) W hi
        have kz : pathK l (1 + (q : Int)) = 0 := by unfold pathK; rw [if_neg (by omega), if_pos ⟨inB_iff.2 (by omega), HAC.out⟩]
        have kv : pathV l (1 + (q : Int)) = S * (1 + (q : Int)) := by unfold pathV; rw [if_pos kz, hS]
        rw [kz, kv] at c
        exact c
      clear hS h8 HLL HLA HAC cA hk c7 HP
      go_upto_region 14 with (go_at_call 15; refine (lwAtT a0 len0 cap0 _ 1000 _ (by omega) (by omega) (by omega) (by omega) w.heap.size (HC0.out _ FB.out)).mono ?_; rintro e w2 ⟨q, rfl, hq, hb⟩; have FO : Hid (OwI w2 w.heap.size (.slice (some ⟨g, 0, none⟩) l.length cg) l) := FO.out.below hb (fun j hj => (FO.out.lt j hj).2); have FB : Hid (Below w.heap.size w w2) := FB.out.trans (hb.mono FB.out.size); clear hb)
      have hq' : q < 1000 := by omega
      obtain ⟨sc, hsc⟩ : ∃ sc : Int, 1 + (q : Int) = sc := ⟨_, rfl⟩
      have sb1 : 1 ≤ sc := by omega
      have sb2 : sc ≤ 1000 := by omega
      have CP2 : ∀ W : World, IIn W (some ⟨g, 0, none⟩) l → Calls Try.prog 16 #[.slice (some ⟨g, 0, none⟩) l.length cg, .int .i64 sc] W fun e w' => e = .returned (.agg #[.int .i64 0, .int .i64 (S * sc)]) ∧ Below W.heap.size W w' := by
        intro W hi
        have c := CP q W hq' hi
        rw [hsc] at c
        exact c
      rw [hsc]
      have bp : -(2000000 * 1000) ≤ S * sc ∧ S * sc ≤ 2000000 * 1000 := by
        have e1 : -2000000 ≤ S := by omega
        have e2 : S ≤ 2000000 := by omega
        constructor
        · have := Int.mul_le_mul_of_nonneg_right e1 (show 0 ≤ sc by omega)
          have := Int.mul_le_mul_of_nonneg_left sb2 (show (0 : Int) ≤ 2000000 by omega)
          omega
        · have := Int.mul_le_mul_of_nonneg_right e2 (show 0 ≤ sc by omega)
          have := Int.mul_le_mul_of_nonneg_left sb2 (show (0 : Int) ≤ 2000000 by omega)
          omega
      obtain ⟨P, hP⟩ : ∃ P, S * sc = P := ⟨_, rfl⟩
      rw [hP] at CP2 bp
      have em : IntKind.i64.wrap (S * sc) = P := by rw [hP]; exact IntWalk.i64_in _ (by omega)
      have em2 : wrap64 (S * sc) = P := by rw [hP]; unfold wrap64; omega
      clear hP CP hsc hq hq' bS bp
      go_upto_region 15 with (go_at_call 16; refine (CP2 _ FO.out.iin).mono ?_; rintro e w3 ⟨rfl, hb⟩; have FB : Hid (Below w.heap.size w w3) := FB.out.trans (hb.mono FB.out.size); clear hb)
      obtain ⟨b1, hbb⟩ : ∃ b1, b1 = w3.heap.size := ⟨_, rfl⟩
      obtain ⟨w4, hw2⟩ : ∃ w4, w4 = w3.alloc (.cells #[.int .i64 0, .int .i64 P] 26) := ⟨_, rfl⟩
      have leb1 : w.heap.size ≤ b1 := by rw [hbb]; exact FB.out.size
      have F1 : Hid (Blk w4 b1 [.int .i64 0, .int .i64 P]) := by rw [hw2]; exact Blk.at_ w3 #[.int .i64 0, .int .i64 P] _ _ hbb
      have FB : Hid (Below w.heap.size w w4) := by rw [hw2]; exact FB.out.alloc FB.out.size _
      rw [← hw2, ← hbb]
      clear hbb hw2
      have F1c0 := F1.out.c 0 _ rfl
      have F1c1 := F1.out.c 1 _ rfl
      have F1l := F1.out.lt
      go_upto_region 16 with (go_at_call 17; refine (DrawTurnDeltaP a0 len0 cap0 _ (HC1 _ FB.out FB.out.size)).mono ?_; rintro e w5 ⟨x, y, rfl, hb⟩; have F1 : Hid (Blk w5 b1 [.int .i64 0, .int .i64 P]) := F1.out.below hb F1.out.lt; have FB : Hid (Below w.heap.size w w5) := FB.out.trans (hb.mono FB.out.size); have F1c0 := F1.out.c 0 _ rfl; have F1c1 := F1.out.c 1 _ rfl; have F1l := F1.out.lt; clear hb)
      cases hr : (isCount x && isCount y)
      · have hno : ¬ (isCount x = true ∧ isCount y = true) := by
          intro z
          rw [z.1, z.2] at hr
          cases hr
        have CI : ∀ W, Calls Try.prog 18 #[.int .i64 x, .int .i64 y] W fun e w' => e = .returned (.agg #[.int .i64 3, .int .i64 0]) ∧ Below W.heap.size W w' := by
          intro W
          have q := implTurn_any x y W
          unfold turnK turnV at q
          rw [if_neg hno, if_neg hno] at q
          exact q
        have CS : ∀ W, Calls Try.prog 19 #[.int .i64 x, .int .i64 y] W fun e w' => e = .returned (.agg #[.int .i64 3, .int .i64 0]) ∧ Below W.heap.size W w' := by
          intro W
          have q := specTurn_any x y W
          unfold turnK turnV at q
          rw [if_neg hno, if_neg hno] at q
          exact q
        have fp : ∀ W, (Instr.field 26 (.agg #[.int .i64 3, .int .i64 0]) 0).run Try.prog W = .ok (.int .i64 3) W := fun W => by kernel_rfl
        clear hno hr
        go_upto_region 18 with (go_at_call 18; refine (CI _).mono ?_; rintro e w6 ⟨rfl, hb⟩; have F1 : Hid (Blk w6 b1 [.int .i64 0, .int .i64 P]) := F1.out.below hb F1.out.lt; have FB : Hid (Below w.heap.size w w6) := FB.out.trans (hb.mono FB.out.size); have F1c0 := F1.out.c 0 _ rfl; have F1c1 := F1.out.c 1 _ rfl; have F1l := F1.out.lt; clear hb)
        obtain ⟨b2, hbb⟩ : ∃ b2, b2 = w6.heap.size := ⟨_, rfl⟩
        obtain ⟨w7, hw2⟩ : ∃ w7, w7 = w6.alloc (.cells #[.int .i64 3, .int .i64 0] 26) := ⟨_, rfl⟩
        have neb2F1 : b1 < b2 := by rw [hbb]; exact F1.out.lt
        have leb2 : w.heap.size ≤ b2 := by rw [hbb]; exact FB.out.size
        have F1 : Hid (Blk w7 b1 [.int .i64 0, .int .i64 P]) := by rw [hw2]; exact F1.out.alloc _
        have F2 : Hid (Blk w7 b2 [.int .i64 3, .int .i64 0]) := by rw [hw2]; exact Blk.at_ w6 #[.int .i64 3, .int .i64 0] _ _ hbb
        have FB : Hid (Below w.heap.size w w7) := by rw [hw2]; exact FB.out.alloc FB.out.size _
        rw [← hw2, ← hbb]
        clear hbb hw2
        have F1c0 := F1.out.c 0 _ rfl
        have F1c1 := F1.out.c 1 _ rfl
        have F2c0 := F2.out.c 0 _ rfl
        have F2c1 := F2.out.c 1 _ rfl
        have F1l := F1.out.lt
        have F2l := F2.out.lt
        have F1 : Hid (Blk w7.drew b1 [.int .i64 0, .int .i64 P]) := F1.out.below (Below.refl _ _).drew F1.out.lt
        have F2 : Hid (Blk w7.drew b2 [.int .i64 3, .int .i64 0]) := F2.out.below (Below.refl _ _).drew F2.out.lt
        have FB : Hid (Below w.heap.size w w7.drew) := FB.out.drew
        refine wp_region_held_drew (S := (fun w'' => Blk w'' b1 ([.int .i64 0, .int .i64 P]) ∧ Blk w'' b2 ([.int .i64 3, .int .i64 0]))) (by kernel_rfl) (by (try dsimp only); first | exact ⟨F1.out, F2.out⟩ | go_keep) (fun hHeld => ?_)
        obtain ⟨v_1, hw1⟩ : ∃ v_1, v_1 = w7.drew := ⟨_, rfl⟩
        have F1 : Hid (Blk v_1 b1 [.int .i64 0, .int .i64 P]) := by rw [hw1]; exact F1.out
        have F2 : Hid (Blk v_1 b2 [.int .i64 3, .int .i64 0]) := by rw [hw1]; exact F2.out
        have FB : Hid (Below w.heap.size w v_1) := by rw [hw1]; exact FB.out
        rw [← hw1] at hHeld ⊢
        clear hw1
        refine tkz 0 rfl ?_
        refine tkz 1 rfl ?_
        refine tkz 4 rfl ?_
        refine tkz 5 rfl ?_ (hy := Or.inl ⟨by kernel_rfl, by (intro wx hSw; have hq1_0 := hSw.2.c 0 _ rfl; (try dsimp only at hSw); go_simp <;> with_reducible rfl)⟩)
        refine wpAnyH_ready (rs := [2]) (by kernel_rfl) (by simp) ?_
        refine (AllReadyH.cons rfl (fun K hK => ?_) AllReadyH.nil)
        go_simp
        refine (CS _).mono ?_
        rintro e v_2 ⟨rfl, hb⟩
        have F1 : Hid (Blk v_2 b1 [.int .i64 0, .int .i64 P]) := F1.out.below hb F1.out.lt
        have F2 : Hid (Blk v_2 b2 [.int .i64 3, .int .i64 0]) := F2.out.below hb F2.out.lt
        have FB : Hid (Below w.heap.size w v_2) := FB.out.trans (hb.mono FB.out.size)
        clear hb
        try dsimp only
        refine hK.out _ _ (by (try dsimp only); first | exact ⟨F1.out, F2.out⟩ | go_keep) (fun hHeld => ?_)
        clear hK K
        try simp only [Act.put, List.getElem_toArray, List.getElem_cons_succ, List.getElem_cons_zero, List.setIfInBounds_toArray, List.set_cons_zero, List.set_cons_succ]
        refine tkz 3 rfl ?_
        refine tkz 6 rfl ?_
        refine tkz 7 rfl ?_
        refine tkz 8 rfl ?_
        refine tkz 9 rfl ?_ (hy := Or.inl ⟨by kernel_rfl, by (intro wx hSw; have hq0_1 := hSw.1.c 1 _ rfl; (try dsimp only at hSw); go_simp <;> with_reducible rfl)⟩)
        refine tkz 10 rfl ?_
        refine tkz 11 rfl ?_
        refine tkz 12 rfl ?_
        refine tkz 13 rfl ?_
        refine tkz 14 rfl ?_
        refine tkz 15 rfl ?_
        refine wpAnyH_done (by kernel_rfl) ?_ _
        go_wp2_with fail
        go_ret
        exact ⟨by simp, FB.out⟩
      · have h2 := (Bool.and_eq_true _ _).mp hr
        have bx := inB_iff.1 h2.1
        have by' := inB_iff.1 h2.2
        have tb := turnP_bd h2.1 h2.2
        have tf := turn_fit h2.1 h2.2
        obtain ⟨D, hD⟩ : ∃ D, turnP x y = D := ⟨_, rfl⟩
        have CI : ∀ W, Calls Try.prog 18 #[.int .i64 x, .int .i64 y] W fun e w' => e = .returned (.agg #[.int .i64 0, .int .i64 D]) ∧ Below W.heap.size W w' := by
          intro W
          have q := implTurn_any x y W
          unfold turnK turnV at q
          rw [if_pos h2, if_pos h2, hD] at q
          exact q
        rw [hD] at tb tf
        have tm : (x + D + 65536).tmod 65536 = y := by rw [Int.tmod_eq_emod_of_nonneg (by omega)]; exact tf
        have g1 : decide (-32768 ≤ D) = true := decide_eq_true tb.1
        have g2 : decide (D < 32768) = true := decide_eq_true (by omega)
        obtain ⟨bx1, bx2⟩ := bx
        obtain ⟨tb1, tb2⟩ := tb
        clear hD tf hr h2
        go_upto_region 19 with (go_at_call 18; refine (CI _).mono ?_; rintro e w6 ⟨rfl, hb⟩; have F1 : Hid (Blk w6 b1 [.int .i64 0, .int .i64 P]) := F1.out.below hb F1.out.lt; have FB : Hid (Below w.heap.size w w6) := FB.out.trans (hb.mono FB.out.size); have F1c0 := F1.out.c 0 _ rfl; have F1c1 := F1.out.c 1 _ rfl; have F1l := F1.out.lt; clear hb)
        obtain ⟨b2, hbb⟩ : ∃ b2, b2 = w6.heap.size := ⟨_, rfl⟩
        obtain ⟨w7, hw2⟩ : ∃ w7, w7 = w6.alloc (.cells #[.int .i64 0, .int .i64 D] 26) := ⟨_, rfl⟩
        have neb2F1 : b1 < b2 := by rw [hbb]; exact F1.out.lt
        have leb2 : w.heap.size ≤ b2 := by rw [hbb]; exact FB.out.size
        have F1 : Hid (Blk w7 b1 [.int .i64 0, .int .i64 P]) := by rw [hw2]; exact F1.out.alloc _
        have F2 : Hid (Blk w7 b2 [.int .i64 0, .int .i64 D]) := by rw [hw2]; exact Blk.at_ w6 #[.int .i64 0, .int .i64 D] _ _ hbb
        have FB : Hid (Below w.heap.size w w7) := by rw [hw2]; exact FB.out.alloc FB.out.size _
        rw [← hw2, ← hbb]
        clear hbb hw2
        have F1c0 := F1.out.c 0 _ rfl
        have F1c1 := F1.out.c 1 _ rfl
        have F2c0 := F2.out.c 0 _ rfl
        have F2c1 := F2.out.c 1 _ rfl
        have F1l := F1.out.lt
        have F2l := F2.out.lt
        go_wp2
        go_ret
        exact ⟨by simp, FB.out⟩
end Go.Proofs.Ytkpcolfbnkopkaa
