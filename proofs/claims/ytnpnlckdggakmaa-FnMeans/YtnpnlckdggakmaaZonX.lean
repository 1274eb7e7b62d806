/-
  Zones that serve a call (the program).
-/
import Derived.Test.YtnpnlckdggakmaaZonV
import Derived.Test.YtnpnlckdggakmaaZonY
import Derived.Test.YtnpnlckdggakmaaLedA
import Derived.Test.YtnpnlckdggakmaaFnd
import Derived.Test.YtnpnlckdggakmaaZonI
import Derived.Deep.RegionHeld3
namespace Go.Proofs.Ytnpnlckdggakmaa
open Go.RowKit Pl
set_option linter.unusedSimpArgs false
set_option linter.unusedVariables false

/-- A guarded whole load of an array, where its guard is open. -/
theorem load_arrgd {ops : Array Oper} {rest : List Oper} {o : Oper} {act : Act} {w : World} {Q : Exit → Act → World → Prop} {b : Nat} {vs : List Value} (T : TypeId) (x : Operand) {n : Nat} {e : TypeId} (hu : Try.prog.underlying T = some (.array n e)) (hi : (Try.prog.info? T).map (·.size) = some vs.toArray.size) (hB : Blk w b vs)
    (hw : Region.wanted o (yielded ops act.tmps) = true) (ho : o.op = .load T x) (hx : act.eval x = .pointer (some ⟨b, 0, none⟩)) (h : wpList Try.prog ops Q rest (act.put o.dst (.agg vs.toArray)) w) : wpList Try.prog ops Q (o :: rest) act w := by
  obtain ⟨T', h'⟩ := hB.o
  exact wpList_step fun K hK => by simp only [hw, if_true]; exact wp_load_row T x ho b hx T' vs.toArray (0, 0) (.array n e) h' hu rfl hi (hK _ _ h)
set_option maxRecDepth 20000 in
set_option maxHeartbeats 16000000 in
theorem implServed_any (h : Hs) (l : List Int) (f t : Int) (a : Option Addr) (cap : Nat) (hl : l.length ≤ 1048576) (w : World) (hI : IIn w a l) :
    Calls Try.prog 14 #[.agg #[.int .i64 h.fl, .int .i64 h.gp, .int .i64 h.ln, .int .i64 h.rf, .int .i64 h.sp, .int .i64 h.pu, .int .i64 h.br, .int .i64 h.dr, .int .i64 h.lv, .int .i64 h.dO, .int .i64 h.ld, .int .i64 h.qu], .slice a l.length cap, .int .i64 f, .int .i64 t] w fun e w' => (∃ v, e = .returned (.agg #[.int .i64 (h.svK l f t), v]) ∧ OwI w' w.heap.size v (h.svL l f t)) ∧ Below w.heap.size w w' := by
  have HI : Hid (IIn w a l) := hI
  clear hI
  obtain ⟨K, hK⟩ : ∃ K, h.svK l f t = K := ⟨_, rfl⟩
  obtain ⟨V, hV⟩ : ∃ V, h.svL l f t = V := ⟨_, rfl⟩
  rw [hK, hV]
  have HK0 : Hid (h.svK l f t = K) := hK
  have HV0 : Hid (h.svL l f t = V) := hV
  clear hK hV
  obtain ⟨b0, hb0⟩ : ∃ b0, b0 = w.heap.size := ⟨_, rfl⟩
  obtain ⟨b1, hb1⟩ : ∃ b1, b1 = b0 + 1 := ⟨_, rfl⟩
  obtain ⟨W0, hW0⟩ : ∃ W0, W0 = (w.alloc (.cells #[.int .i64 h.fl, .int .i64 h.gp, .int .i64 h.ln, .int .i64 h.rf, .int .i64 h.sp, .int .i64 h.pu, .int .i64 h.br, .int .i64 h.dr, .int .i64 h.lv, .int .i64 h.dO, .int .i64 h.ld, .int .i64 h.qu] 25)).alloc (.cells #[.int .i64 0, .slice none 0 0] 30) := ⟨_, rfl⟩
  have F0 : Hid (Blk W0 b0 [.int .i64 h.fl, .int .i64 h.gp, .int .i64 h.ln, .int .i64 h.rf, .int .i64 h.sp, .int .i64 h.pu, .int .i64 h.br, .int .i64 h.dr, .int .i64 h.lv, .int .i64 h.dO, .int .i64 h.ld, .int .i64 h.qu]) := by rw [hW0]; exact (Blk.at_ w #[.int .i64 h.fl, .int .i64 h.gp, .int .i64 h.ln, .int .i64 h.rf, .int .i64 h.sp, .int .i64 h.pu, .int .i64 h.br, .int .i64 h.dr, .int .i64 h.lv, .int .i64 h.dO, .int .i64 h.ld, .int .i64 h.qu] _ _ hb0).alloc _
  have F1 : Hid (Blk W0 b1 [.int .i64 0, .slice none 0 0]) := by rw [hW0]; exact Blk.at_ _ #[.int .i64 0, .slice none 0 0] _ _ (by simp; omega)
  have FB : Hid (Below w.heap.size w W0) := by rw [hW0]; exact ((Below.refl _ _).alloc (Nat.le_refl _) _).alloc (by simp) _
  have leb0 : w.heap.size ≤ b0 := by omega
  have leb1 : w.heap.size ≤ b1 := by omega
  have l01 : b0 < b1 := by omega
  obtain ⟨kz, hkz⟩ : ∃ kz, h.znK l = kz := ⟨_, rfl⟩
  obtain ⟨kc, hkc⟩ : ∃ kc, Hs.call h f t = kc := ⟨_, rfl⟩
  have HZ : Hid (h.znK l = kz) := hkz
  have HC : Hid (Hs.call h f t = kc) := hkc
  have HKK : Hid ((if kz = 0 then kc else kz) = K) := by show _ = K; rw [← HK0.out]; unfold Hs.svK; rw [hkz, hkc]
  clear hkz hkc
  go_enter Try.func14, Try.ntmps14
  go_upto_region 1 with fail
  rw [← hb0, ← hb1, ← hW0]
  clear hb0 hb1 hW0
  have CZ : ∀ W, IIn W a l → Calls Try.prog 43 #[.agg #[.int .i64 h.fl, .int .i64 h.gp, .int .i64 h.ln, .int .i64 h.rf, .int .i64 h.sp, .int .i64 h.pu, .int .i64 h.br, .int .i64 h.dr, .int .i64 h.lv, .int .i64 h.dO, .int .i64 h.ld, .int .i64 h.qu], .slice a l.length cap] W fun e w' => e = .returned (.int .i64 kz) ∧ Below W.heap.size W w' := by
    intro W hW
    have z := implZones_any h l a cap hl W hW
    rw [HZ.out] at z
    exact z
  have CC : ∀ W, Calls Try.prog 48 #[.agg #[.int .i64 h.fl, .int .i64 h.gp, .int .i64 h.ln, .int .i64 h.rf, .int .i64 h.sp, .int .i64 h.pu, .int .i64 h.br, .int .i64 h.dr, .int .i64 h.lv, .int .i64 h.dO, .int .i64 h.ld, .int .i64 h.qu], .int .i64 f, .int .i64 t] W fun e w' => e = .returned (.int .i64 kc) ∧ Below W.heap.size W w' := by
    intro W
    have z := implCallFault_any h f t W
    rw [HC.out] at z
    exact z
  go_cut [9] from 14 to 22 (fun v wx => v = .int .i64 (orI kz kc) ∧ Blk wx b0 [.int .i64 h.fl, .int .i64 h.gp, .int .i64 h.ln, .int .i64 h.rf, .int .i64 h.sp, .int .i64 h.pu, .int .i64 h.br, .int .i64 h.dr, .int .i64 h.lv, .int .i64 h.dO, .int .i64 h.ld, .int .i64 h.qu] ∧ Blk wx b1 [.int .i64 0, .slice none 0 0] ∧ Below w.heap.size w wx)
  case first =>
    have F0 : Hid (Blk W0.drew b0 [.int .i64 h.fl, .int .i64 h.gp, .int .i64 h.ln, .int .i64 h.rf, .int .i64 h.sp, .int .i64 h.pu, .int .i64 h.br, .int .i64 h.dr, .int .i64 h.lv, .int .i64 h.dO, .int .i64 h.ld, .int .i64 h.qu]) := F0.out.below (Below.refl _ _).drew F0.out.lt
    have F1 : Hid (Blk W0.drew b1 [.int .i64 0, .slice none 0 0]) := F1.out.below (Below.refl _ _).drew F1.out.lt
    have FB : Hid (Below w.heap.size w W0.drew) := FB.out.drew
    refine wp_region_held_drew (S := (fun w'' => Blk w'' b0 ([.int .i64 h.fl, .int .i64 h.gp, .int .i64 h.ln, .int .i64 h.rf, .int .i64 h.sp, .int .i64 h.pu, .int .i64 h.br, .int .i64 h.dr, .int .i64 h.lv, .int .i64 h.dO, .int .i64 h.ld, .int .i64 h.qu]))) (by kernel_rfl) (by (try dsimp only); first | exact F0.out | go_keep) (fun hHeld => ?_)
    obtain ⟨v_1, hw1⟩ : ∃ v_1, v_1 = W0.drew := ⟨_, rfl⟩
    have F0 : Hid (Blk v_1 b0 [.int .i64 h.fl, .int .i64 h.gp, .int .i64 h.ln, .int .i64 h.rf, .int .i64 h.sp, .int .i64 h.pu, .int .i64 h.br, .int .i64 h.dr, .int .i64 h.lv, .int .i64 h.dO, .int .i64 h.ld, .int .i64 h.qu]) := by rw [hw1]; exact F0.out
    have F1 : Hid (Blk v_1 b1 [.int .i64 0, .slice none 0 0]) := by rw [hw1]; exact F1.out
    have FB : Hid (Below w.heap.size w v_1) := by rw [hw1]; exact FB.out
    rw [← hw1] at hHeld ⊢
    clear hw1
    refine tkz 0 rfl ?_ (hy := Or.inl ⟨by kernel_rfl, fun wx hSw => exec_load_blk 25 _ Try.underlying25 (by kernel_rfl) rfl rfl hSw⟩)
    refine tkz 1 rfl ?_
    refine tkz 3 rfl ?_ (hy := Or.inl ⟨by kernel_rfl, fun wx hSw => exec_load_blk 25 _ Try.underlying25 (by kernel_rfl) rfl rfl hSw⟩)
    refine tkz 4 rfl ?_
    refine tkz 5 rfl ?_
    refine wpAnyH_ready (rs := [2]) (by kernel_rfl) (by simp) ?_
    refine (AllReadyH.cons rfl (fun K hK => ?_) AllReadyH.nil)
    go_simp
    refine (CZ _ (HI.out.below FB.out)).mono ?_
    rintro e v_2 ⟨rfl, hb⟩
    have F0 : Hid (Blk v_2 b0 [.int .i64 h.fl, .int .i64 h.gp, .int .i64 h.ln, .int .i64 h.rf, .int .i64 h.sp, .int .i64 h.pu, .int .i64 h.br, .int .i64 h.dr, .int .i64 h.lv, .int .i64 h.dO, .int .i64 h.ld, .int .i64 h.qu]) := F0.out.below hb F0.out.lt
    have F1 : Hid (Blk v_2 b1 [.int .i64 0, .slice none 0 0]) := F1.out.below hb F1.out.lt
    have FB : Hid (Below w.heap.size w v_2) := FB.out.trans (hb.mono FB.out.size)
    clear hb
    try dsimp only
    refine hK.out _ _ (by (try dsimp only); first | exact F0.out | go_keep) (fun hHeld => ?_)
    clear hK K
    try simp only [Act.put, List.getElem_toArray, List.getElem_cons_succ, List.getElem_cons_zero, List.setIfInBounds_toArray, List.set_cons_zero, List.set_cons_succ]
    refine wpAnyH_ready (rs := [6]) (by kernel_rfl) (by simp) ?_
    refine (AllReadyH.cons rfl (fun K hK => ?_) AllReadyH.nil)
    go_simp
    refine (CC _).mono ?_
    rintro e v_3 ⟨rfl, hb⟩
    have F0 : Hid (Blk v_3 b0 [.int .i64 h.fl, .int .i64 h.gp, .int .i64 h.ln, .int .i64 h.rf, .int .i64 h.sp, .int .i64 h.pu, .int .i64 h.br, .int .i64 h.dr, .int .i64 h.lv, .int .i64 h.dO, .int .i64 h.ld, .int .i64 h.qu]) := F0.out.below hb F0.out.lt
    have F1 : Hid (Blk v_3 b1 [.int .i64 0, .slice none 0 0]) := F1.out.below hb F1.out.lt
    have FB : Hid (Below w.heap.size w v_3) := FB.out.trans (hb.mono FB.out.size)
    clear hb
    try dsimp only
    refine hK.out _ _ (by (try dsimp only); first | exact F0.out | go_keep) (fun hHeld => ?_)
    clear hK K
    try simp only [Act.put, List.getElem_toArray, List.getElem_cons_succ, List.getElem_cons_zero, List.setIfInBounds_toArray, List.set_cons_zero, List.set_cons_succ]
    refine wpAnyH_ready (rs := [7]) (by kernel_rfl) (by simp) ?_
    refine (AllReadyH.cons rfl (fun K hK => ?_) AllReadyH.nil)
    go_simp
    obtain ⟨lb0, hbb⟩ : ∃ lb0, lb0 = v_3.heap.size := ⟨_, rfl⟩
    obtain ⟨v_4, hw2⟩ : ∃ v_4, v_4 = v_3.alloc (.cells #[.int .i64 kz, .int .i64 kc] 2) := ⟨_, rfl⟩
    have nlb0_0 := F0.out.lt
    rw [← hbb] at nlb0_0
    have nlb0_1 := F1.out.lt
    rw [← hbb] at nlb0_1
    have FL0 : Hid (Pr2 v_4 lb0 kz kc) := by rw [hw2]; exact Pr2.at_ v_3 _ _ _ lb0 hbb
    have F0 : Hid (Blk v_4 b0 [.int .i64 h.fl, .int .i64 h.gp, .int .i64 h.ln, .int .i64 h.rf, .int .i64 h.sp, .int .i64 h.pu, .int .i64 h.br, .int .i64 h.dr, .int .i64 h.lv, .int .i64 h.dO, .int .i64 h.ld, .int .i64 h.qu]) := by rw [hw2]; exact F0.out.alloc _
    have F1 : Hid (Blk v_4 b1 [.int .i64 0, .slice none 0 0]) := by rw [hw2]; exact F1.out.alloc _
    have FB : Hid (Below w.heap.size w v_4) := by rw [hw2]; exact FB.out.alloc FB.out.size _
    rw [← hw2, ← hbb]
    clear hbb hw2
    refine hK.out _ _ (by (try dsimp only); first | exact F0.out | go_keep) (fun hHeld => ?_)
    clear hK K
    try simp only [Act.put, List.getElem_toArray, List.getElem_cons_succ, List.getElem_cons_zero, List.setIfInBounds_toArray, List.set_cons_zero, List.set_cons_succ]
    refine wpAnyH_ready (rs := [8]) (by kernel_rfl) (by simp) ?_
    refine (AllReadyH.cons rfl (fun K hK => ?_) AllReadyH.nil)
    go_simp
    refine (or_any kz kc _ _ FL0.out.c0 FL0.out.c1).mono ?_
    rintro e w_ ⟨rfl, hw⟩
    obtain rfl := hw.symm
    clear hw
    try dsimp only
    refine hK.out _ _ (by (try dsimp only); first | exact F0.out | go_keep) (fun hHeld => ?_)
    clear hK K
    try simp only [Act.put, List.getElem_toArray, List.getElem_cons_succ, List.getElem_cons_zero, List.setIfInBounds_toArray, List.set_cons_zero, List.set_cons_succ]
    refine tkz 9 rfl ?_
    refine wpAnyH_done (by kernel_rfl) ?_ _
    go_wp2_with fail
    go_meet
    case rel => exact ⟨rfl, F0.out, F1.out, FB.out⟩
  case rest =>
  obtain ⟨rfl, hf0, hf1, hb⟩ := hcut
  have F0 : Hid (Blk wc b0 [.int .i64 h.fl, .int .i64 h.gp, .int .i64 h.ln, .int .i64 h.rf, .int .i64 h.sp, .int .i64 h.pu, .int .i64 h.br, .int .i64 h.dr, .int .i64 h.lv, .int .i64 h.dO, .int .i64 h.ld, .int .i64 h.qu]) := hf0
  have F1 : Hid (Blk wc b1 [.int .i64 0, .slice none 0 0]) := hf1
  have FB : Hid (Below w.heap.size w wc) := hb
  clear hf0 hf1 hb CZ CC
  obtain ⟨kk, hkk⟩ : ∃ kk, orI kz kc = kk := ⟨_, rfl⟩
  have HKk : Hid (kk = K) := by show kk = K; rw [← HKK.out, ← hkk]; rfl
  have HO0 : Hid (orI kz kc = kk) := hkk
  rw [hkk]
  clear hkk
  by_cases hz : kk = 0
  case neg =>
    have hn : (kk != 0) = true := by simpa using hz
    have HK : Hid ((kk : Int) = K) := by show _ = K; exact HKk.out
    have HV : Hid ([] = V) := by show _ = V; rw [← HV0.out]; unfold Hs.svL; rw [HK0.out, ← HK.out, if_neg (by first | assumption | decide)]
    go_wp2_with (first | (refine store_blk [.int .i64 (kk), .slice none 0 0] 30 _ _ (by kernel_rfl) (by kernel_rfl) (by kernel_rfl) F1.out rfl rfl rfl rfl ?_))
    exact bodyPost_ret (v := .agg #[.int .i64 (kk), .slice none 0 0]) ((F1.out.row [.int .i64 (kk), .slice none 0 0]).res _ Try.results14 Try.underlying30 (by kernel_rfl) rfl) rfl ⟨⟨_, by rw [HK.out], by rw [← HV.out]; exact owi_nil _ _⟩, below_row FB.out leb1 _⟩
  case pos =>
  subst hz
  have ez : kz = 0 ∧ kc = 0 := by
    have z := HO0.out
    unfold orI at z
    split at z
    · rename_i c; exact ⟨c, z⟩
    · rename_i c; exact absurd z c
  obtain ⟨rfl, rfl⟩ := ez
  have HK : Hid ((0 : Int) = K) := by show _ = K; have z := HKK.out; simpa using z
  obtain ⟨p, q, rfl, rfl, p12, q12⟩ := call_zero HC.out
  have HV : Hid (plP l p q l.length = V) := by show _ = V; rw [← HV0.out]; unfold Hs.svL; rw [HK0.out, ← HK.out, if_pos rfl, Int.toNat_natCast, Int.toNat_natCast]
  have l6 : l.length ≤ 6 := (znK_zero HZ.out).2.2.1
  obtain ⟨B2, hB2⟩ : ∃ B2, B2 = wc.heap.size := ⟨_, rfl⟩
  have lB0 : b1 < B2 := by rw [hB2]; exact F1.out.lt
  have HB2 : Hid (B2 ≤ wc.heap.size) := by show B2 ≤ _; omega
  have lB2 : w.heap.size ≤ B2 := by omega
  clear hB2
  go_wp2_with fail
  go_loopw [10, 29] (fun zz ii wr => ∃ (i : Nat) (va : Option Addr) (vc : Nat), zz = .slice va (plP l p q i).length vc ∧ ii = .int .i64 (i : Int) ∧ i ≤ l.length ∧ OwI wr B2 (.slice va (plP l p q i).length vc) (plP l p q i) ∧ Blk wr b1 [.int .i64 0, .slice none 0 0] ∧ B2 ≤ wr.heap.size ∧ Below w.heap.size w wr) (fun _ ii _ => l.length - (intOf ii).toNat)
  case atStart => exact ⟨0, none, 0, rfl, rfl, by omega, owi_nil _ _, F1.out, HB2.out, FB.out⟩
  case round =>
    obtain ⟨i, va, vc, rfl, rfl, hi, ho, hf1, hs, hb⟩ := hrel
    have F1 : Hid (Blk wr b1 [.int .i64 0, .slice none 0 0]) := hf1
    have FB : Hid (Below w.heap.size w wr) := hb
    have HO : Hid (OwI wr B2 (.slice va (plP l p q i).length vc) (plP l p q i)) := ho
    have HS : Hid (B2 ≤ wr.heap.size) := hs
    clear hf1 hb ho hs HB2 F0
    by_cases hlt : i < l.length
    · obtain ⟨x, hx⟩ : ∃ x, l[i]? = some x := ⟨_, List.getElem?_eq_getElem hlt⟩
      have HP : Hid (plP l p q (i + 1) = plP l p q i ++ (if both x p q = true then [(i : Int)] else [])) := plP_succ p q hx
      obtain ⟨M, hM, -, hM2, -⟩ := zone_nat HZ.out (List.mem_of_getElem? hx)
      rcases HI.out with h0 | ⟨g, rfl, hg, hc⟩
      · rw [h0] at hlt; simp at hlt
      have c0 := (FB.out.cell (p := ⟨g, i, none⟩) hg).trans (hc i x hx)
      rw [hM] at c0 HP
      have HB : Hid (both (M : Int) p q = (M.testBit p && M.testBit q)) := by show _ = _; unfold both; rw [Int.toNat_natCast]
      rw [HB.out] at HP
      have ll : (plP l p q i).length ≤ 6 := Nat.le_trans (plP_len _ _ _ _) (by omega)
      obtain ⟨L, hL⟩ : ∃ L, plP l p q i = L := ⟨_, rfl⟩
      rw [hL] at HP HO ll ⊢
      clear hx hc hM hL HB
      go_upto_region 9 with (first | (go_at_call 45; refine (setOf_any M hM2 _).mono ?_; rintro e w4 ⟨rfl, hb⟩; have HO : Hid (OwI w4 B2 (.slice va L.length vc) L) := HO.out.below hb (fun k hk => (HO.out.lt k hk).2); have HS : Hid (B2 ≤ w4.heap.size) := Nat.le_trans HS.out hb.size; have F1 : Hid (Blk w4 b1 [.int .i64 0, .slice none 0 0]) := F1.out.below hb F1.out.lt; have FB : Hid (Below w.heap.size w w4) := FB.out.trans (hb.mono FB.out.size); clear hb) | (refine store_new (bvs M) 61 _ _ (bvs_info M) (by rw [bvs_size]; rfl) (bvs_one M) rfl rfl rfl rfl ?_))
      obtain ⟨b3, hb3⟩ : ∃ b3, b3 = w4.heap.size := ⟨_, rfl⟩
      obtain ⟨w5, hw5⟩ : ∃ w5, w5 = w4.alloc (.cells (bvs M).toArray 61) := ⟨_, rfl⟩
      have F3 : Hid (Blk w5 b3 (bvs M)) := by rw [hw5]; exact Blk.at_ w4 (bvs M).toArray _ _ hb3
      have hb : Below w4.heap.size w4 w5 := by rw [hw5]; exact (Below.refl _ _).alloc (Nat.le_refl _) _
      have HO : Hid (OwI w5 B2 (.slice va L.length vc) L) := HO.out.below hb (fun k hk => (HO.out.lt k hk).2)
      have HS : Hid (B2 ≤ w5.heap.size) := Nat.le_trans HS.out hb.size
      have F1 : Hid (Blk w5 b1 [.int .i64 0, .slice none 0 0]) := F1.out.below hb F1.out.lt
      have FB : Hid (Below w.heap.size w w5) := FB.out.trans (hb.mono FB.out.size)
      (try simp only [Act.put])
      rw [← hw5, ← hb3]
      clear hw5 hb3 hb
      cases hp : M.testBit p
      · have HE : Hid (plP l p q (i + 1) = L) := by show _ = L; rw [HP.out, hp]; simp
        go_wp2_with (first | (refine load_arr 61 _ undFS (bvs_info M) F3.out rfl rfl rfl ?_) | (go_at_call 49; (fail_if_success have := GA); refine (has_any M p p12 _).mono ?_; rw [hp]; rintro e w6 ⟨rfl, hb⟩; have HO : Hid (OwI w6 B2 (.slice va L.length vc) L) := HO.out.below hb (fun k hk => (HO.out.lt k hk).2); have HS : Hid (B2 ≤ w6.heap.size) := Nat.le_trans HS.out hb.size; have F1 : Hid (Blk w6 b1 [.int .i64 0, .slice none 0 0]) := F1.out.below hb F1.out.lt; have FB : Hid (Below w.heap.size w w6) := FB.out.trans (hb.mono FB.out.size); have F3 : Hid (Blk w6 b3 (bvs M)) := F3.out.below hb F3.out.lt; clear hb; have GA : Hid True := trivial))
        go_roundw
        case rel => exact ⟨i + 1, va, vc, by rw [HE.out], by simp, by omega, by rw [HE.out]; exact HO.out, F1.out, HS.out, FB.out⟩
        case measure => simp [intOf]; omega
      · cases hq : M.testBit q
        · have HE : Hid (plP l p q (i + 1) = L) := by show _ = L; rw [HP.out, hp, hq]; simp
          go_wp2_with (first | (refine load_arr 61 _ undFS (bvs_info M) F3.out rfl rfl rfl ?_) | (refine load_arrgd 61 _ undFS (bvs_info M) F3.out (by kernel_rfl) rfl rfl ?_) | (go_at_call 49; (fail_if_success have := GA); refine (has_any M p p12 _).mono ?_; rw [hp]; rintro e w6 ⟨rfl, hb⟩; have HO : Hid (OwI w6 B2 (.slice va L.length vc) L) := HO.out.below hb (fun k hk => (HO.out.lt k hk).2); have HS : Hid (B2 ≤ w6.heap.size) := Nat.le_trans HS.out hb.size; have F1 : Hid (Blk w6 b1 [.int .i64 0, .slice none 0 0]) := F1.out.below hb F1.out.lt; have FB : Hid (Below w.heap.size w w6) := FB.out.trans (hb.mono FB.out.size); have F3 : Hid (Blk w6 b3 (bvs M)) := F3.out.below hb F3.out.lt; clear hb; have GA : Hid True := trivial) | (go_at_call 49; refine (has_any M q q12 _).mono ?_; rw [hq]; rintro e w7 ⟨rfl, hb⟩; have HO : Hid (OwI w7 B2 (.slice va L.length vc) L) := HO.out.below hb (fun k hk => (HO.out.lt k hk).2); have HS : Hid (B2 ≤ w7.heap.size) := Nat.le_trans HS.out hb.size; have F1 : Hid (Blk w7 b1 [.int .i64 0, .slice none 0 0]) := F1.out.below hb F1.out.lt; have FB : Hid (Below w.heap.size w w7) := FB.out.trans (hb.mono FB.out.size); clear hb))
          go_roundw
          case rel => exact ⟨i + 1, va, vc, by rw [HE.out], by simp, by omega, by rw [HE.out]; exact HO.out, F1.out, HS.out, FB.out⟩
          case measure => simp [intOf]; omega
        · have HE : Hid (plP l p q (i + 1) = L ++ [(i : Int)]) := by show _ = _; rw [HP.out, hp, hq]; simp
          go_wp2_with (first | (refine load_arr 61 _ undFS (bvs_info M) F3.out rfl rfl rfl ?_) | (refine load_arrgd 61 _ undFS (bvs_info M) F3.out (by kernel_rfl) rfl rfl ?_) | (go_at_call 49; (fail_if_success have := GA); refine (has_any M p p12 _).mono ?_; rw [hp]; rintro e w6 ⟨rfl, hb⟩; have HO : Hid (OwI w6 B2 (.slice va L.length vc) L) := HO.out.below hb (fun k hk => (HO.out.lt k hk).2); have HS : Hid (B2 ≤ w6.heap.size) := Nat.le_trans HS.out hb.size; have F1 : Hid (Blk w6 b1 [.int .i64 0, .slice none 0 0]) := F1.out.below hb F1.out.lt; have FB : Hid (Below w.heap.size w w6) := FB.out.trans (hb.mono FB.out.size); have F3 : Hid (Blk w6 b3 (bvs M)) := F3.out.below hb F3.out.lt; clear hb; have GA : Hid True := trivial) | (go_at_call 49; refine (has_any M q q12 _).mono ?_; rw [hq]; rintro e w7 ⟨rfl, hb⟩; have HO : Hid (OwI w7 B2 (.slice va L.length vc) L) := HO.out.below hb (fun k hk => (HO.out.lt k hk).2); have HS : Hid (B2 ≤ w7.heap.size) := Nat.le_trans HS.out hb.size; have F1 : Hid (Blk w7 b1 [.int .i64 0, .slice none 0 0]) := F1.out.below hb F1.out.lt; have FB : Hid (Below w.heap.size w w7) := FB.out.trans (hb.mono FB.out.size); clear hb) | (at_builtin; refine app_iG _ B2 _ L (i : Int) _ _ rfl rfl rfl rfl HO.out (by omega) HS.out ?_; intro a' c' w8 ho2 hg))
          go_roundw
          case rel => exact ⟨i + 1, a', c', by rw [HE.out, List.length_append]; rfl, by simp, by omega, by rw [HE.out]; exact ho2, F1.out.grown hg (fun e => by have := (HO.out.lt b1 e.symm).1; omega), Nat.le_trans HS.out hg.size, FB.out.grown hg FB.out.size (fun j hj => Nat.le_trans lB2 (HO.out.lt j hj).1)⟩
          case measure => simp [intOf]; omega
    · have e : i = l.length := by omega
      subst e
      have HO2 : Hid (OwI wr w.heap.size (.slice va (plP l p q l.length).length vc) V) := by
        have z := HO.out.base lB2
        rw [HV.out] at z ⊢
        exact z
      have HOb : Hid (∀ j, (Value.slice va (plP l p q l.length).length vc).ownBlock = some j → b1 < j) := fun j hj => Nat.lt_of_lt_of_le (by omega) (HO.out.lt j hj).1
      rw [HV.out] at HO2 HOb ⊢
      clear HO HV
      have HO := HO2
      have HOV : Hid (OwI (wr.setRow b1 #[.int .i64 0, .slice va V.length vc]) w.heap.size (.slice va V.length vc) V) := OwI.kept (row := some b1) HO.out ⟨rfl, rfl, rfl, by simp, fun k _ hne => setRow_other _ b1 k _ (fun q => hne (by rw [q]))⟩ (Or.inr (fun c => by have := HOb.out b1 c; omega))
      go_wp2_with (refine store_blk [.int .i64 (0), .slice va V.length vc] 30 _ _ (by kernel_rfl) (by kernel_rfl) (by kernel_rfl) F1.out rfl rfl rfl rfl ?_)
      exact bodyPost_ret (v := .agg #[.int .i64 (0), .slice va V.length vc]) ((F1.out.row [.int .i64 (0), .slice va V.length vc]).res _ Try.results14 Try.underlying30 (by kernel_rfl) rfl) rfl ⟨⟨_, by rw [HK.out], HOV.out⟩, below_row FB.out leb1 _⟩
end Go.Proofs.Ytnpnlckdggakmaa
