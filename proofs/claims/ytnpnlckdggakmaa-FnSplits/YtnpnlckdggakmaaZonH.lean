/-
  Zones: where the cars wait (the program).
-/
import Derived.Test.YtnpnlckdggakmaaZonN
import Derived.Test.YtnpnlckdggakmaaZonY
import Derived.Test.YtnpnlckdggakmaaZonI
import Derived.Deep.RegionHeld3
namespace Go.Proofs.Ytnpnlckdggakmaa
open Go.RowKit Pl
set_option linter.unusedSimpArgs false
set_option linter.unusedVariables false

theorem exec_load_arr {o : Oper} {a : Act} {w : World} {b : Nat} {vs : List Value} (T : TypeId) (x : Operand) {n : Nat} {e : TypeId} (hu : Try.prog.underlying T = some (.array n e)) (hi : (Try.prog.info? T).map (·.size) = some vs.toArray.size)
    (ho : o.op = .load T x) (hx : a.eval x = .pointer (some ⟨b, 0, none⟩)) (hB : Blk w b vs) : (execOp a.eval o).run Try.prog w = .ok (.value (.agg vs.toArray)) w := by
  obtain ⟨T', h'⟩ := hB.o
  unfold execOp
  simp only [ho, hx, Instr.loadAt, Instr.sureAddr, Sem.run_bind, Sem.run_pure, Result.andThen_ok, run_loadVar_row w b T' T vs.toArray (0, 0) (.array n e) h' hu rfl hi]
set_option maxRecDepth 20000 in
set_option maxHeartbeats 16000000 in
theorem implPark_any (h : Hs) (l : List Int) (a : Option Addr) (cap : Nat) (hl : l.length ≤ 1048576) (w : World) (hI : IIn w a l) :
    Calls Try.prog 13 #[.agg #[.int .i64 h.fl, .int .i64 h.gp, .int .i64 h.ln, .int .i64 h.rf, .int .i64 h.sp, .int .i64 h.pu, .int .i64 h.br, .int .i64 h.dr, .int .i64 h.lv, .int .i64 h.dO, .int .i64 h.ld, .int .i64 h.qu], .slice a l.length cap] w fun e w' => (∃ v, e = .returned (.agg #[.int .i64 (h.znK l), v]) ∧ OwI w' w.heap.size v (Hs.pkL h l)) ∧ Below w.heap.size w w' := by
  have HI : Hid (IIn w a l) := hI
  clear hI
  obtain ⟨K, hK⟩ : ∃ K, h.znK l = K := ⟨_, rfl⟩
  obtain ⟨V, hV⟩ : ∃ V, Hs.pkL h l = V := ⟨_, rfl⟩
  rw [hK, hV]
  have HK0 : Hid (h.znK l = K) := hK
  have HV0 : Hid (Hs.pkL h l = V) := hV
  clear hK hV
  obtain ⟨b0, hb0⟩ : ∃ b0, b0 = w.heap.size := ⟨_, rfl⟩
  obtain ⟨b1, hb1⟩ : ∃ b1, b1 = b0 + 1 := ⟨_, rfl⟩
  obtain ⟨W0, hW0⟩ : ∃ W0, W0 = (w.alloc (.cells #[.int .i64 h.fl, .int .i64 h.gp, .int .i64 h.ln, .int .i64 h.rf, .int .i64 h.sp, .int .i64 h.pu, .int .i64 h.br, .int .i64 h.dr, .int .i64 h.lv, .int .i64 h.dO, .int .i64 h.ld, .int .i64 h.qu] 25)).alloc (.cells #[.int .i64 0, .slice none 0 0] 30) := ⟨_, rfl⟩
  have F0 : Hid (Blk W0 b0 [.int .i64 h.fl, .int .i64 h.gp, .int .i64 h.ln, .int .i64 h.rf, .int .i64 h.sp, .int .i64 h.pu, .int .i64 h.br, .int .i64 h.dr, .int .i64 h.lv, .int .i64 h.dO, .int .i64 h.ld, .int .i64 h.qu]) := by rw [hW0]; exact (Blk.at_ w #[.int .i64 h.fl, .int .i64 h.gp, .int .i64 h.ln, .int .i64 h.rf, .int .i64 h.sp, .int .i64 h.pu, .int .i64 h.br, .int .i64 h.dr, .int .i64 h.lv, .int .i64 h.dO, .int .i64 h.ld, .int .i64 h.qu] _ _ hb0).alloc _
  have F1 : Hid (Blk W0 b1 [.int .i64 0, .slice none 0 0]) := by rw [hW0]; exact Blk.at_ _ #[.int .i64 0, .slice none 0 0] _ _ (by simp; omega)
  have FB : Hid (Below w.heap.size w W0) := by rw [hW0]; exact ((Below.refl _ _).alloc (Nat.le_refl _) _).alloc (by simp) _
  have leb1 : w.heap.size ≤ b1 := by omega
  have l01 : b0 < b1 := by omega
  go_enter Try.func13, Try.ntmps13
  go_upto_region 1 with fail
  rw [← hb0, ← hb1, ← hW0]
  clear hb0 hb1 hW0
  go_upto_region 2 with (first | (refine load_blk 25 _ Try.underlying25 (by kernel_rfl) F0.out rfl rfl rfl ?_) | (go_at_call 43; refine (implZones_any h l a cap hl _ (HI.out.below FB.out)).mono ?_; rw [HK0.out]; rintro e w1 ⟨rfl, hb⟩; have F0 : Hid (Blk w1 b0 [.int .i64 h.fl, .int .i64 h.gp, .int .i64 h.ln, .int .i64 h.rf, .int .i64 h.sp, .int .i64 h.pu, .int .i64 h.br, .int .i64 h.dr, .int .i64 h.lv, .int .i64 h.dO, .int .i64 h.ld, .int .i64 h.qu]) := F0.out.below hb F0.out.lt; have F1 : Hid (Blk w1 b1 [.int .i64 0, .slice none 0 0]) := F1.out.below hb F1.out.lt; have FB : Hid (Below w.heap.size w w1) := FB.out.trans (hb.mono FB.out.size); clear hb))
  by_cases hz : K = 0
  case neg =>
    have hn : (K != 0) = true := by simpa using hz
    have HV : Hid ([] = V) := by show _ = V; rw [← HV0.out]; unfold Hs.pkL; rw [HK0.out, if_neg hz]
    go_wp2_with (refine store_blk [.int .i64 (K), .slice none 0 0] 30 _ _ (by kernel_rfl) (by kernel_rfl) (by kernel_rfl) F1.out rfl rfl rfl rfl ?_)
    exact bodyPost_ret (v := .agg #[.int .i64 (K), .slice none 0 0]) ((F1.out.row [.int .i64 (K), .slice none 0 0]).res _ Try.results13 Try.underlying30 (by kernel_rfl) rfl) rfl ⟨⟨_, rfl, by rw [← HV.out]; exact owi_nil _ _⟩, below_row FB.out leb1 _⟩
  case pos =>
  subst hz
  have HV : Hid (pkP l l.length = V) := by show _ = V; rw [← HV0.out]; unfold Hs.pkL; rw [HK0.out, if_pos rfl]
  have l6 : l.length ≤ 6 := (znK_zero HK0.out).2.2.1
  go_upto_region 5 with fail
  obtain ⟨b2, hb2⟩ : ∃ b2, b2 = w1.heap.size := ⟨_, rfl⟩
  obtain ⟨w2, hw2⟩ : ∃ w2, w2 = w1.alloc (.cells #[.int .u8 0, .int .u8 0, .int .u8 0, .int .u8 0, .int .u8 0, .int .u8 0, .int .u8 0, .int .u8 0, .int .u8 0, .int .u8 0, .int .u8 0, .int .u8 0] 61) := ⟨_, rfl⟩
  have l12 : b1 < b2 := by rw [hb2]; exact F1.out.lt
  have leb2 : w.heap.size ≤ b2 := by omega
  have F2 : Hid (Blk w2 b2 (bvs 0)) := by rw [hw2, ← zero_bvs]; exact Blk.at_ w1 #[.int .u8 0, .int .u8 0, .int .u8 0, .int .u8 0, .int .u8 0, .int .u8 0, .int .u8 0, .int .u8 0, .int .u8 0, .int .u8 0, .int .u8 0, .int .u8 0] _ _ hb2
  have F1 : Hid (Blk w2 b1 [.int .i64 0, .slice none 0 0]) := by rw [hw2]; exact F1.out.alloc _
  have FB : Hid (Below w.heap.size w w2) := by rw [hw2]; exact FB.out.alloc FB.out.size _
  (try simp only [Act.put])
  rw [← hw2, ← hb2]
  clear hw2 hb2
  obtain ⟨B2, hB2⟩ : ∃ B2, B2 = w2.heap.size := ⟨_, rfl⟩
  have lB2b : b2 < B2 := by rw [hB2]; exact F2.out.lt
  have HB2 : Hid (B2 ≤ w2.heap.size) := by show B2 ≤ _; omega
  have lB2 : w.heap.size ≤ B2 := by omega
  clear hB2
  go_wp2_with fail
  go_loopw [7, 20] (fun zz ii wr => ∃ (i : Nat) (va : Option Addr) (vc : Nat), zz = .slice va (pkP l i).length vc ∧ ii = .int .i64 (i : Int) ∧ i ≤ l.length ∧ OwI wr B2 (.slice va (pkP l i).length vc) (pkP l i) ∧ Blk wr b1 [.int .i64 0, .slice none 0 0] ∧ Blk wr b2 (bvs (maskN (pkP l i))) ∧ B2 ≤ wr.heap.size ∧ Below w.heap.size w wr) (fun _ ii _ => l.length - (intOf ii).toNat)
  case atStart => exact ⟨0, none, 0, rfl, rfl, by omega, owi_nil _ _, F1.out, F2.out, HB2.out, FB.out⟩
  case round =>
    obtain ⟨i, va, vc, rfl, rfl, hi, ho, hf1, hf2, hs, hb⟩ := hrel
    have F1 : Hid (Blk wr b1 [.int .i64 0, .slice none 0 0]) := hf1
    have F2 : Hid (Blk wr b2 (bvs (maskN (pkP l i)))) := hf2
    have FB : Hid (Below w.heap.size w wr) := hb
    have HO : Hid (OwI wr B2 (.slice va (pkP l i).length vc) (pkP l i)) := ho
    have HS : Hid (B2 ≤ wr.heap.size) := hs
    clear hf1 hf2 hb ho hs HB2 F0
    by_cases hlt : i < l.length
    · obtain ⟨x, hx⟩ : ∃ x, l[i]? = some x := ⟨_, List.getElem?_eq_getElem hlt⟩
      obtain ⟨M, hM, hM1, hM2, hM0⟩ := zone_nat HK0.out (List.mem_of_getElem? hx)
      subst hM
      have HP : Hid (pkP l (i + 1) = pkP l i ++ [parkF M (maskN (pkP l i))]) := pkP_succ hx
      rcases HI.out with h0 | ⟨g, rfl, hg, hc⟩
      · rw [h0] at hlt; simp at hlt
      have FC : Hid (One wr g i (M : Int)) := ⟨(FB.out.cell (p := ⟨g, i, none⟩) hg).trans (hc i _ hx)⟩
      have ll : (pkP l i).length ≤ 6 := by rw [pkP_len]; omega
      clear hx hc
      have c0 := FC.out.c
      have HT : Hid (maskN (pkP l (i + 1)) = maskN (pkP l i) ||| 2 ^ (parkF M (maskN (pkP l i))).toNat) := by show _ = _; rw [HP.out, maskN_snoc]
      obtain ⟨fp, hfp, hf12⟩ : ∃ fp : Nat, parkF M (maskN (pkP l i)) = (fp : Int) ∧ fp < 12 := by
        obtain ⟨z1, z2⟩ := fls_bd (parkF_mem (maskN (pkP l i)) hM2 hM0)
        exact ⟨(parkF M (maskN (pkP l i))).toNat, by omega, by omega⟩
      have CP : ∀ W, Calls Try.prog 46 #[.agg (bvs M).toArray, .agg (bvs (maskN (pkP l i))).toArray] W fun e w' => e = .returned (.int .i64 (fp : Int)) ∧ Below W.heap.size W w' := by
        intro W
        have z := parkFloor_any M (maskN (pkP l i)) hM2 hM0 W
        rw [hfp] at z
        exact z
      rw [hfp] at HP HT
      rw [Int.toNat_natCast] at HT
      obtain ⟨L, hL⟩ : ∃ L, pkP l i = L := ⟨_, rfl⟩
      rw [hL] at HP HT HO F2 CP ll ⊢
      obtain ⟨T, hT⟩ : ∃ T, maskN L = T := ⟨_, rfl⟩
      rw [hT] at HT F2 CP
      clear hfp hL hT
      have FZ : Hid (Below wr.heap.size wr wr) := Below.refl _ _
      go_upto_region 9 with fail
      clear c0
      go_cut [10] from 24 to 34 (fun v wx => v = .int .i64 (fp : Int) ∧ OwI wx B2 (.slice va L.length vc) L ∧ Blk wx b1 [.int .i64 0, .slice none 0 0] ∧ Blk wx b2 (bvs T) ∧ B2 ≤ wx.heap.size ∧ Below w.heap.size w wx)
      case first =>
        have F1 : Hid (Blk wr.drew b1 [.int .i64 0, .slice none 0 0]) := F1.out.below (Below.refl _ _).drew F1.out.lt
        have F2 : Hid (Blk wr.drew b2 (bvs T)) := F2.out.below (Below.refl _ _).drew F2.out.lt
        have HO : Hid (OwI wr.drew B2 (.slice va L.length vc) L) := HO.out.drew
        have FB : Hid (Below w.heap.size w wr.drew) := FB.out.drew
        have FZ : Hid (Below wr.heap.size wr wr.drew) := FZ.out.drew
        refine wp_region_held_drew (S := (fun w'' => Blk w'' b2 (bvs T))) (by kernel_rfl) (by (try dsimp only); first | exact F2.out | go_keep) (fun hHeld => ?_)
        obtain ⟨v_1, hw1⟩ : ∃ v_1, v_1 = wr.drew := ⟨_, rfl⟩
        have F1 : Hid (Blk v_1 b1 [.int .i64 0, .slice none 0 0]) := by rw [hw1]; exact F1.out
        have F2 : Hid (Blk v_1 b2 (bvs T)) := by rw [hw1]; exact F2.out
        have HO : Hid (OwI v_1 B2 (.slice va L.length vc) L) := by rw [hw1]; exact HO.out
        have FB : Hid (Below w.heap.size w v_1) := by rw [hw1]; exact FB.out
        have FZ : Hid (Below wr.heap.size wr v_1) := by rw [hw1]; exact FZ.out
        rw [← hw1] at hHeld ⊢
        clear hw1
        refine tkz 0 rfl ?_
        refine tkz 2 rfl ?_ (hy := Or.inl ⟨by kernel_rfl, fun wx hSw => exec_load_arr 61 _ undFS (bvs_info T) rfl rfl hSw⟩)
        refine wpAnyH_ready (rs := [1]) (by kernel_rfl) (by simp) ?_
        refine (AllReadyH.cons rfl (fun K hK => ?_) AllReadyH.nil)
        go_simp
        refine (setOf_any M hM2 _).mono ?_
        rintro e v_2 ⟨rfl, hb⟩
        have F1 : Hid (Blk v_2 b1 [.int .i64 0, .slice none 0 0]) := F1.out.below hb F1.out.lt
        have F2 : Hid (Blk v_2 b2 (bvs T)) := F2.out.below hb F2.out.lt
        have HO : Hid (OwI v_2 B2 (.slice va L.length vc) L) := HO.out.below hb (fun k hk => (HO.out.lt k hk).2)
        have FB : Hid (Below w.heap.size w v_2) := FB.out.trans (hb.mono FB.out.size)
        have FZ : Hid (Below wr.heap.size wr v_2) := FZ.out.trans (hb.mono FZ.out.size)
        clear hb
        try dsimp only
        refine hK.out _ _ (by (try dsimp only); first | exact F2.out | go_keep) (fun hHeld => ?_)
        clear hK K
        try simp only [Act.put, List.getElem_toArray, List.getElem_cons_succ, List.getElem_cons_zero, List.setIfInBounds_toArray, List.set_cons_zero, List.set_cons_succ]
        refine wpAnyH_ready (rs := [3]) (by kernel_rfl) (by simp) ?_
        refine (AllReadyH.cons rfl (fun K hK => ?_) AllReadyH.nil)
        go_simp
        refine (CP _).mono ?_
        rintro e v_3 ⟨rfl, hb⟩
        have F1 : Hid (Blk v_3 b1 [.int .i64 0, .slice none 0 0]) := F1.out.below hb F1.out.lt
        have F2 : Hid (Blk v_3 b2 (bvs T)) := F2.out.below hb F2.out.lt
        have HO : Hid (OwI v_3 B2 (.slice va L.length vc) L) := HO.out.below hb (fun k hk => (HO.out.lt k hk).2)
        have FB : Hid (Below w.heap.size w v_3) := FB.out.trans (hb.mono FB.out.size)
        have FZ : Hid (Below wr.heap.size wr v_3) := FZ.out.trans (hb.mono FZ.out.size)
        clear hb
        try dsimp only
        refine hK.out _ _ (by (try dsimp only); first | exact F2.out | go_keep) (fun hHeld => ?_)
        clear hK K
        try simp only [Act.put, List.getElem_toArray, List.getElem_cons_succ, List.getElem_cons_zero, List.setIfInBounds_toArray, List.set_cons_zero, List.set_cons_succ]
        refine tkz 4 rfl ?_
        refine wpAnyH_done (by kernel_rfl) ?_ _
        go_wp2_with fail
        go_meet
        case rel => exact ⟨rfl, HO.out, F1.out, F2.out, Nat.le_trans HS.out FZ.out.size, FB.out⟩
      case rest =>
      obtain ⟨rfl, ho, hf1, hf2, hs, hb⟩ := hcut
      have F1 : Hid (Blk wc b1 [.int .i64 0, .slice none 0 0]) := hf1
      have F2 : Hid (Blk wc b2 (bvs T)) := hf2
      have FB : Hid (Below w.heap.size w wc) := hb
      have HO : Hid (OwI wc B2 (.slice va L.length vc) L) := ho
      have HS : Hid (B2 ≤ wc.heap.size) := hs
      clear ho hf1 hf2 hs hb
      have c2 := F2.out.c fp _ (bvs_get hf12)
      have k2 := F2.out.f fp (by rw [bvs_len]; exact hf12)
      have H2 : Hid (Blk (wc.setCell ⟨b2, fp, none⟩ (.int .u8 1)) b2 (bvs (T ||| 2 ^ fp))) := by
        have z := F2.out.set (k := fp) (.int .u8 1) (by rw [bvs_len]; exact hf12)
        rw [bvs_set hf12] at z
        exact z
      go_upto_region 11 with fail
      obtain ⟨w6, hw6⟩ : ∃ w6, w6 = wc.setCell ⟨b2, fp, none⟩ (.int .u8 1) := ⟨_, rfl⟩
      have HO3 : Hid (OwI w6 B2 (.slice va L.length vc) L) := by rw [hw6]; exact HO.out.other (fun e => by have e2 : B2 ≤ b2 := (HO.out.lt b2 e).1; omega) _
      have F13 : Hid (Blk w6 b1 [.int .i64 0, .slice none 0 0]) := by rw [hw6]; exact F1.out.other (by omega)
      have FB3 : Hid (Below w.heap.size w w6) := by rw [hw6]; exact FB.out.setCell leb2 _
      have HS3 : Hid (B2 ≤ w6.heap.size) := by rw [hw6]; have := HS.out; show B2 ≤ _; simpa using this
      rw [← hw6] at H2 ⊢
      clear hw6 c2 k2
      go_wp2_with (at_builtin; refine app_iG _ B2 _ L (fp : Int) _ _ rfl rfl rfl rfl HO3.out (by omega) HS3.out ?_; intro a' c' w8 ho2 hg)
      go_roundw
      case rel => exact ⟨i + 1, a', c', by rw [HP.out, List.length_append]; rfl, by simp, by omega, by rw [HP.out]; exact ho2, F13.out.grown hg (fun e => by have := (HO.out.lt b1 e.symm).1; omega), by rw [HT.out]; exact H2.out.grown hg (fun e => by have := (HO.out.lt b2 e.symm).1; omega), Nat.le_trans HS3.out hg.size, FB3.out.grown hg FB3.out.size (fun j hj => Nat.le_trans lB2 (HO.out.lt j hj).1)⟩
      case measure => simp [intOf]; omega
    · have e : i = l.length := by omega
      subst e
      have HO2 : Hid (OwI wr w.heap.size (.slice va (pkP l l.length).length vc) V) := by
        have z := HO.out.base lB2
        rw [HV.out] at z ⊢
        exact z
      have HOb : Hid (∀ j, (Value.slice va (pkP l l.length).length vc).ownBlock = some j → b1 < j) := fun j hj => Nat.lt_of_lt_of_le (by omega) (HO.out.lt j hj).1
      rw [HV.out] at HO2 HOb ⊢
      clear HO HV
      have HO := HO2
      have HOV : Hid (OwI (wr.setRow b1 #[.int .i64 0, .slice va V.length vc]) w.heap.size (.slice va V.length vc) V) := OwI.kept (row := some b1) HO.out ⟨rfl, rfl, rfl, by simp, fun k _ hne => setRow_other _ b1 k _ (fun q => hne (by rw [q]))⟩ (Or.inr (fun c => by have := HOb.out b1 c; omega))
      go_wp2_with (refine store_blk [.int .i64 (0), .slice va V.length vc] 30 _ _ (by kernel_rfl) (by kernel_rfl) (by kernel_rfl) F1.out rfl rfl rfl rfl ?_)
      exact bodyPost_ret (v := .agg #[.int .i64 (0), .slice va V.length vc]) ((F1.out.row [.int .i64 (0), .slice va V.length vc]).res _ Try.results13 Try.underlying30 (by kernel_rfl) rfl) rfl ⟨⟨_, rfl, HOV.out⟩, below_row FB.out leb1 _⟩
end Go.Proofs.Ytnpnlckdggakmaa
