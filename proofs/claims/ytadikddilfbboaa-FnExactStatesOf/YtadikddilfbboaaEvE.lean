/-
  What was seen: StatesOf, the model.
-/
import Derived.Test.YtadikddilfbboaaEvN
import Derived.Test.YtadikddilfbboaaEvS
import Derived.Test.YtadikddilfbboaaEvR
namespace Go.Proofs.Ytadikddilfbboaa
open Go.RowKit Pl
set_option linter.unusedSimpArgs false
set_option linter.unusedVariables false

theorem C1.other {W : World} {b o k q : Nat} {x : Int} {u : Value} (a : C1 W b o x) (hne : b ≠ k) : C1 (W.setCell ⟨k, q, none⟩ u) b o x := ⟨(World.cell?_of_block (w := W) (Below.heap_setCell W ⟨k, q, none⟩ u b hne)).trans a.c⟩
theorem own_size {w : World} {B : Nat} {v : Value} {l : List Int} (h : OwI w B v l) (hl : 0 < l.length) : B ≤ w.heap.size := by
  rcases h.cases with ⟨_, h0⟩ | ⟨g, c, e⟩
  · rw [h0] at hl; simp at hl
  · have := h.lt g (by rw [e]; rfl)
    omega
theorem wp_append_v {w : World} {a : Act} {K : Act → World → Prop} {Q : Exit → Act → World → Prop} {s x : Operand} {dst : Option Tmp} {ty : TypeId} {ps : String} {af : Array Edge}
    (B : Nat) (v : Value) (l : List Int) (q : Int) (hs : a.eval s = v) (hown : OwI w B v l) (nb : Nat) (hx : a.eval x = .slice (some ⟨nb, 0, none⟩) 1 1)
    (hq : w.cell? ⟨nb, 0, none⟩ = some (.int .i64 q)) (hlen : l.length ≤ 1000) (hB : B ≤ w.heap.size)
    (h : ∀ v' w', OwI w' B v' (l ++ [q]) → w.grownBy w' v.ownBlock → K (a.put dst v') w') :
    Oper.wp Try.prog { dst := dst, op := .call { callee := .builtin .append, args := #[s, x], argTypes := #[26, 26] }, type := ty, pos := ps, after := af, guard := none } a w K Q := by
  obtain ⟨i, hi, hz, hsz, hby⟩ := info_parts info64
  have hnews : ∀ j u, ([.int .i64 q] : List Value)[j]? = some u → w.cell? ((⟨nb, 0, none⟩ : Addr).add j) = some u := by
    intro j u hu
    cases j with
    | zero =>
      have hu' : Value.int .i64 q = u := by simpa using hu
      subst hu'
      simpa [Addr.add] using hq
    | succ j => simp at hu
  refine wp_append_own (P := Try.prog) w s x 26 rfl B 2 i (.int .i64 0) 1 8 undI64S hi hz hsz hby rfl (by omega) _ l.length (intsV l) hs hown ⟨nb, 0, none⟩ 1 1 [.int .i64 q] hx rfl hnews (one_cell q) (by unfold maxLen; omega) (by omega) hB ?_
  intro v' w' ho hg hn
  refine h v' w' ?_ hg
  unfold OwI
  have e : intsV (l ++ [q]) = intsV l ++ [.int .i64 q] := by simp [intsV]
  rw [List.length_append, e]
  exact ho
set_option maxRecDepth 20000 in
set_option maxHeartbeats 32000000 in
theorem specStates_any (h : Hs) (l : List Ev) (a : Option Addr) (cap : Nat) (hl : l.length ≤ 1048576) (hcap : l.length ≤ cap) (w : World) (hE : EIn w w.heap.size a l) :
    Calls Try.prog 5 #[.agg #[.int .i64 h.fl, .int .i64 h.gp, .int .i64 h.ln, .int .i64 h.rf, .int .i64 h.sp, .int .i64 h.pu, .int .i64 h.br, .int .i64 h.dr, .int .i64 h.lv, .int .i64 h.dO, .int .i64 h.ld, .int .i64 h.qu], .slice a l.length cap] w fun e w' => (∃ v, e = .returned (.agg #[.int .i64 (Hs.tr h l), v]) ∧ OwI w' w.heap.size v (statesL h l)) ∧ Below w.heap.size w w' := by
  have HE : Hid (EIn w w.heap.size a l) := hE
  clear hE
  obtain ⟨b0, hb0⟩ : ∃ b0, b0 = w.heap.size := ⟨_, rfl⟩
  obtain ⟨b1, hb1⟩ : ∃ b1, b1 = b0 + 1 := ⟨_, rfl⟩
  obtain ⟨W0, hW0⟩ : ∃ W0, W0 = (w.alloc (.cells #[.int .i64 h.fl, .int .i64 h.gp, .int .i64 h.ln, .int .i64 h.rf, .int .i64 h.sp, .int .i64 h.pu, .int .i64 h.br, .int .i64 h.dr, .int .i64 h.lv, .int .i64 h.dO, .int .i64 h.ld, .int .i64 h.qu] 30)).alloc (.cells #[.int .i64 0, .slice none 0 0] 28) := ⟨_, rfl⟩
  have F0 : Hid (Blk W0 b0 [.int .i64 h.fl, .int .i64 h.gp, .int .i64 h.ln, .int .i64 h.rf, .int .i64 h.sp, .int .i64 h.pu, .int .i64 h.br, .int .i64 h.dr, .int .i64 h.lv, .int .i64 h.dO, .int .i64 h.ld, .int .i64 h.qu]) := by rw [hW0]; exact (Blk.at_ w #[.int .i64 h.fl, .int .i64 h.gp, .int .i64 h.ln, .int .i64 h.rf, .int .i64 h.sp, .int .i64 h.pu, .int .i64 h.br, .int .i64 h.dr, .int .i64 h.lv, .int .i64 h.dO, .int .i64 h.ld, .int .i64 h.qu] _ _ hb0).alloc _
  have F1 : Hid (Blk W0 b1 [.int .i64 0, .slice none 0 0]) := by rw [hW0]; exact Blk.at_ _ #[.int .i64 0, .slice none 0 0] _ _ (by simp; omega)
  have FB : Hid (Below w.heap.size w W0) := by rw [hW0]; exact ((Below.refl _ _).alloc (Nat.le_refl _) _).alloc (by simp) _
  have leb1 : w.heap.size ≤ b1 := by omega
  obtain ⟨T, hT⟩ : ∃ T, Hs.tr h l = T := ⟨_, rfl⟩
  have HT : Hid (Hs.tr h l = T) := hT
  have HST : Hid (statesL h l = if T = 0 then (idsM 1 l).map (stOf l) else []) := by show statesL h l = _; unfold statesL; rw [hT]
  rw [hT]
  clear hT
  obtain ⟨SL, hSL⟩ : ∃ SL, statesL h l = SL := ⟨_, rfl⟩
  rw [hSL]
  rw [hSL] at HST
  clear hSL
  go_enter Try.func5, Try.ntmps5
  go_upto_region 1 with fail
  rw [← hb0, ← hb1, ← hW0]
  clear hb0 hb1 hW0
  go_upto_region 2 with (first | (refine load_blk 30 _ Try.underlying30 (by kernel_rfl) F0.out rfl rfl rfl ?_) | (go_at_call 14; refine (specTrace_any h l a cap hl hcap _ ((HE.out.below FB.out (Nat.le_refl _)).mono FB.out.size)).mono ?_; rw [HT.out]; rintro e w1 ⟨rfl, hb⟩; have F1 : Hid (Blk w1 b1 [.int .i64 0, .slice none 0 0]) := F1.out.below hb F1.out.lt; have FB : Hid (Below w.heap.size w w1) := FB.out.trans (hb.mono FB.out.size); clear hb))
  by_cases hz : T = 0
  case neg =>
    have hn : (T != 0) = true := by simpa using hz
    have e0 : SL = [] := by have q := HST.out; rw [if_neg hz] at q; exact q
    have HO : Hid (OwI (w1.setRow b1 #[.int .i64 T, .slice none 0 0]) w.heap.size (.slice none 0 0) SL) := by rw [e0]; exact owi_nil _ _
    clear e0 hz
    go_wp2_with (refine store_blk [.int .i64 T, .slice none 0 0] 28 _ _ (by kernel_rfl) (by kernel_rfl) (by kernel_rfl) F1.out rfl rfl rfl rfl ?_)
    exact bodyPost_ret (v := .agg #[.int .i64 T, .slice none 0 0]) ((F1.out.row [.int .i64 T, .slice none 0 0]).res _ Try.results5 Try.underlying28 (by kernel_rfl) rfl) rfl ⟨⟨_, rfl, HO.out⟩, below_row FB.out leb1 _⟩
  case pos =>
  subst hz
  have htr := tr_codes HT.out
  have hl2 : l.length ≤ 200 := htr.2.1
  have hkd : ∀ x ∈ l, 1 ≤ x.kd ∧ x.kd ≤ 5 := by
    intro x hx
    obtain ⟨j, hj, e⟩ := List.mem_iff_getElem.1 hx
    have q := htr.2.2 j hj
    unfold Hs.codeI at q
    rw [List.getElem?_eq_getElem hj, e] at q
    dsimp only at q
    split at q
    · rename_i c
      have := evC_kd c
      omega
    · rename_i c
      exact absurd q c
  have HSL : Hid (SL = (idsM 1 l).map (stOf l)) := by show SL = (idsM 1 l).map (stOf l); have q := HST.out; simpa using q
  have hLl : (idsM 1 l).length ≤ 200 := by
    have hs := idsM_at (kd := 1) (l := l) l.length (Nat.le_refl _)
    rw [List.take_length] at hs
    omega
  clear htr HST HT F0
  go_upto_region 5 with (refine store_new [.int .i64 0, .slice none 0 0] 28 _ _ (by kernel_rfl) (by kernel_rfl) (by kernel_rfl) rfl rfl rfl rfl ?_)
  obtain ⟨b2, hbb⟩ : ∃ b2, b2 = w1.heap.size := ⟨_, rfl⟩
  obtain ⟨w2, hw2⟩ : ∃ w2, w2 = w1.alloc (.cells #[.int .i64 0, .slice none 0 0] 28) := ⟨_, rfl⟩
  have l12 : b1 < b2 := by rw [hbb]; exact F1.out.lt
  have leb2 : w.heap.size ≤ b2 := by omega
  have F1 : Hid (Blk w2 b1 [.int .i64 0, .slice none 0 0]) := by rw [hw2]; exact F1.out.alloc _
  have F2 : Hid (Blk w2 b2 [.int .i64 0, .slice none 0 0]) := by rw [hw2]; exact Blk.at_ w1 #[.int .i64 0, .slice none 0 0] _ _ hbb
  have FB : Hid (Below w.heap.size w w2) := by rw [hw2]; exact FB.out.alloc FB.out.size _
  simp only [Act.put]
  rw [← hw2, ← hbb]
  clear hw2 hbb
  obtain ⟨L, hL⟩ : ∃ L, idsM 1 l = L := ⟨_, rfl⟩
  rw [hL] at HSL hLl
  go_upto_region 6 with (go_at_call 15; refine (l10Ids_any l a cap 1 hl2 _ ((HE.out.below FB.out (Nat.le_refl _)).mono FB.out.size)).mono ?_; rw [hL]; rintro e w3 ⟨⟨vs, rfl, ho⟩, hb⟩; have FR0 : Hid (OwI w3 w.heap.size vs L) := ho.base FB.out.size; have HG : Hid (∀ k, vs.ownBlock = some k → b2 < k) := (fun k hk => Nat.lt_of_lt_of_le F2.out.lt (ho.lt k hk).1); obtain ⟨ga, gc, rfl⟩ := FR0.out.sl; have F1 : Hid (Blk w3 b1 [.int .i64 0, .slice none 0 0]) := F1.out.below hb F1.out.lt; have F2 : Hid (Blk w3 b2 [.int .i64 0, .slice none 0 0]) := F2.out.below hb F2.out.lt; have FB : Hid (Below w.heap.size w w3) := FB.out.trans (hb.mono FB.out.size); clear hb ho)
  clear hL
  obtain ⟨B2, hB2⟩ : ∃ B2, B2 = w3.heap.size := ⟨_, rfl⟩
  have lb1 : b1 < B2 := by rw [hB2]; exact F1.out.lt
  have lb2 : b2 < B2 := by rw [hB2]; exact F2.out.lt
  have lg : ∀ k, (Value.slice ga L.length gc).ownBlock = some k → k < B2 ∧ k ≠ b2 := fun k hk => ⟨by rw [hB2]; exact (FR0.out.lt k hk).2, Nat.ne_of_gt (HG.out k hk)⟩
  have lB2 : w.heap.size ≤ B2 := by rw [hB2]; exact FB.out.size
  have HB2 : Hid (B2 ≤ w3.heap.size) := by show B2 ≤ _; omega
  clear hB2 HG
  go_wp2_with fail
  go_loopw [8] (fun ii wr => ∃ (i : Nat) (va : Option Addr) (vc : Nat), ii = .int .i64 i ∧ i ≤ L.length ∧ OwI wr B2 (.slice va ((L.take i).map (stOf l)).length vc) ((L.take i).map (stOf l)) ∧ Blk wr b2 [.int .i64 0, .slice va ((L.take i).map (stOf l)).length vc] ∧ Blk wr b1 [.int .i64 0, .slice none 0 0] ∧ OwI wr w.heap.size (.slice ga L.length gc) L ∧ B2 ≤ wr.heap.size ∧ Below w.heap.size w wr) (fun ii _ => L.length - (intOf ii).toNat)
  case atStart => exact ⟨0, none, 0, rfl, by omega, owi_nil _ _, F2.out, F1.out, FR0.out, HB2.out, FB.out⟩
  case round =>
    obtain ⟨i, va, vc, rfl, hi, ho, hf2, hf1, hr, hB, hb⟩ := hrel
    obtain ⟨M, hM⟩ : ∃ M, (L.take i).map (stOf l) = M := ⟨_, rfl⟩
    rw [hM] at ho hf2
    have FO : Hid (OwI wr B2 (.slice va M.length vc) M) := ho
    have F2 : Hid (Blk wr b2 [.int .i64 0, .slice va M.length vc]) := hf2
    have F1 : Hid (Blk wr b1 [.int .i64 0, .slice none 0 0]) := hf1
    have FB : Hid (Below w.heap.size w wr) := hb
    have HBw : Hid (B2 ≤ wr.heap.size) := hB
    have HMl : Hid ((L.take i).map (stOf l) = M) := hM
    have hMl : M.length ≤ 200 := by rw [← hM, List.length_map, List.length_take]; omega
    clear ho hf2 hf1 hb hB HB2 hM
    by_cases hlt : i < L.length
    · obtain ⟨x, hx⟩ : ∃ x, L[i]? = some x := ⟨_, List.getElem?_eq_getElem hlt⟩
      rcases hr.cases with ⟨_, h0⟩ | ⟨g, gc', e⟩
      · rw [h0] at hlt; simp at hlt
      injection e with e1 e2 e3
      subst e1
      clear e2 e3
      have FR : Hid (OwI wr w.heap.size (.slice (some ⟨g, 0, none⟩) L.length gc) L) := hr
      have FC : Hid (C1 wr g i x) := ⟨hr.cell hx⟩
      have lg1 := (lg g rfl).1
      have lg2 := (lg g rfl).2
      obtain ⟨M1, hM1⟩ : ∃ M1, M ++ [stOf l x] = M1 := ⟨_, rfl⟩
      have HM1 : Hid (M ++ [stOf l x] = M1) := hM1
      have HN : Hid ((L.take (i + 1)).map (stOf l) = M1) := by
        rw [← hM1]
        show (L.take (i + 1)).map (stOf l) = M ++ [stOf l x]
        have q : L[i] = x := (List.getElem?_eq_some_iff.1 hx).2
        rw [List.take_succ_eq_append_getElem hlt, List.map_append, HMl.out, q]
        rfl
      obtain ⟨wz, hwz⟩ : ∃ wz, wz = wr := ⟨_, rfl⟩
      have FZ : Hid (Below B2 wz wr) := by rw [hwz]; exact Below.refl _ _
      have HBw : Hid (B2 ≤ wz.heap.size) := by rw [hwz]; exact HBw.out
      clear hr hx hwz lg hM1
      go_wp2_with fail
      have F1 : Hid (Blk wr.drew b1 [.int .i64 0, .slice none 0 0]) := F1.out.below (Below.refl _ _).drew F1.out.lt
      have F2 : Hid (Blk wr.drew b2 [.int .i64 0, (.slice va M.length vc)]) := F2.out.below (Below.refl _ _).drew F2.out.lt
      have FO : Hid (OwI wr.drew B2 (.slice va M.length vc) M) := FO.out.drew
      have FR : Hid (OwI wr.drew w.heap.size (.slice (some ⟨g, 0, none⟩) L.length gc) L) := FR.out.drew
      have FC : Hid (C1 wr.drew g i x) := FC.out.below (Below.refl _ _).drew FC.out.lt
      have FZ : Hid (Below B2 wz wr.drew) := FZ.out.drew
      have FB : Hid (Below w.heap.size w wr.drew) := FB.out.drew
      have m1 := FC.out.c
      refine wp_region_held_drew (S := (fun w'' => w''.cell? ⟨g, i, none⟩ = some (.int .i64 x))) (by kernel_rfl) (by (try dsimp only); first | exact m1 | go_keep) (fun hHeld => ?_)
      obtain ⟨v_1, hw1⟩ : ∃ v_1, v_1 = wr.drew := ⟨_, rfl⟩
      have F1 : Hid (Blk v_1 b1 [.int .i64 0, .slice none 0 0]) := by rw [hw1]; exact F1.out
      have F2 : Hid (Blk v_1 b2 [.int .i64 0, (.slice va M.length vc)]) := by rw [hw1]; exact F2.out
      have FO : Hid (OwI v_1 B2 (.slice va M.length vc) M) := by rw [hw1]; exact FO.out
      have FR : Hid (OwI v_1 w.heap.size (.slice (some ⟨g, 0, none⟩) L.length gc) L) := by rw [hw1]; exact FR.out
      have FC : Hid (C1 v_1 g i x) := by rw [hw1]; exact FC.out
      have FZ : Hid (Below B2 wz v_1) := by rw [hw1]; exact FZ.out
      have FB : Hid (Below w.heap.size w v_1) := by rw [hw1]; exact FB.out
      rw [← hw1] at hHeld ⊢
      clear hw1
      have m1 := FC.out.c
      refine tkz 0 rfl ?_
      refine tkz 2 rfl ?_
      refine tkz 3 rfl ?_
      refine tkz 4 rfl ?_
      refine tkz 5 rfl ?_
      refine tkz 6 rfl ?_
      refine wpAnyH_ready (rs := [1, 7]) (by kernel_rfl) (by simp) ?_
      refine (AllReadyH.cons rfl (fun K hK => ?_) (AllReadyH.cons rfl (fun K hK => ?_) AllReadyH.nil))
      · have c0_ := F2.out.c 1 _ rfl
        go_simp
        refine hK.out _ _ (by (try dsimp only); first | exact m1 | go_keep) (fun hHeld => ?_)
        clear hK K
        try simp only [Act.put, List.getElem_toArray, List.getElem_cons_succ, List.getElem_cons_zero, List.setIfInBounds_toArray, List.set_cons_zero, List.set_cons_succ]
        refine wpAnyH_ready (rs := [7]) (by kernel_rfl) (by simp) ?_
        refine (AllReadyH.cons rfl (fun K hK => ?_) AllReadyH.nil)
        go_simp
        refine (l10State_any a cap l x hl hkd _ ((HE.out.below FB.out (Nat.le_refl _)).mono FB.out.size)).mono ?_
        rintro e w_ ⟨rfl, hw⟩
        obtain rfl := hw.symm
        clear hw
        try dsimp only
        refine hK.out _ _ (by (try dsimp only); first | exact m1 | go_keep) (fun hHeld => ?_)
        clear hK K
        try simp only [Act.put, List.getElem_toArray, List.getElem_cons_succ, List.getElem_cons_zero, List.setIfInBounds_toArray, List.set_cons_zero, List.set_cons_succ]
        refine wpAnyH_ready (rs := [8]) (by kernel_rfl) (by simp) ?_
        refine (AllReadyH.cons rfl (fun K hK => ?_) AllReadyH.nil)
        refine step_i rfl ?_
        go_simp
        obtain ⟨nb, hnb⟩ : ∃ nb, nb = v_1.heap.size := ⟨_, rfl⟩
        have ln1 : b2 < nb := by rw [hnb]; exact F2.out.lt
        obtain ⟨v_2, hw2⟩ : ∃ v_2, v_2 = v_1.alloc (.cells #[.int .i64 (stOf l x)] 2) := ⟨_, rfl⟩
        have F1 : Hid (Blk v_2 b1 [.int .i64 0, .slice none 0 0]) := by rw [hw2]; exact F1.out.alloc _
        have F2 : Hid (Blk v_2 b2 [.int .i64 0, (.slice va M.length vc)]) := by rw [hw2]; exact F2.out.alloc _
        have FO : Hid (OwI v_2 B2 (.slice va M.length vc) M) := by rw [hw2]; exact FO.out.alloc _
        have FR : Hid (OwI v_2 w.heap.size (.slice (some ⟨g, 0, none⟩) L.length gc) L) := by rw [hw2]; exact FR.out.alloc _
        have FC : Hid (C1 v_2 g i x) := by rw [hw2]; exact FC.out.alloc _
        have FZ : Hid (Below B2 wz v_2) := by rw [hw2]; exact FZ.out.alloc (by have := FZ.out.size; have := HBw.out; omega) _
        have FB : Hid (Below w.heap.size w v_2) := by rw [hw2]; exact FB.out.alloc FB.out.size _
        have FN : Hid (C1 v_2 nb 0 (stOf l x)) := by rw [hw2]; exact ⟨by rw [hnb]; simp⟩
        rw [← hw2, ← hnb]
        clear hw2 hnb
        have m1 := FC.out.c
        refine hK.out _ _ (by (try dsimp only); first | exact m1 | go_keep) (fun hHeld => ?_)
        clear hK K
        try simp only [Act.put, List.getElem_toArray, List.getElem_cons_succ, List.getElem_cons_zero, List.setIfInBounds_toArray, List.set_cons_zero, List.set_cons_succ]
        refine wpAnyH_ready (rs := [9]) (by kernel_rfl) (by simp) ?_
        refine (AllReadyH.cons rfl (fun K hK => ?_) AllReadyH.nil)
        refine step_i rfl ?_
        have FOx := FO
        refine wp_append_v B2 (.slice va M.length vc) M (stOf l x) rfl FO.out nb rfl FN.out.c (by omega) (by have := HBw.out; have := FZ.out.size; omega) ?_
        intro v1 v_3 ho hg
        rw [HM1.out] at ho
        obtain ⟨va1, vc1, rfl⟩ := ho.sl
        have F1 : Hid (Blk v_3 b1 [.int .i64 0, .slice none 0 0]) := F1.out.grown hg (fun e => by have e2 := (FOx.out.lt _ e.symm).1; omega)
        have F2 : Hid (Blk v_3 b2 [.int .i64 0, (.slice va M.length vc)]) := F2.out.grown hg (fun e => by have e2 := (FOx.out.lt _ e.symm).1; omega)
        have FR : Hid (OwI v_3 w.heap.size (.slice (some ⟨g, 0, none⟩) L.length gc) L) := FR.out.kept hg (Or.inr (fun e => by have e2 := (FOx.out.lt g e.symm).1; omega))
        have FC : Hid (C1 v_3 g i x) := FC.out.grown hg (fun e => by have e2 := (FOx.out.lt _ e.symm).1; omega)
        have FB : Hid (Below w.heap.size w v_3) := FB.out.grown hg FB.out.size (fun j hj => Nat.le_trans lB2 (FOx.out.lt j hj).1)
        have FQ : Hid (OwI v_3 B2 (.slice va1 M1.length vc1) M1) := ho
        clear ho hg
        have m1 := FC.out.c
        refine hK.out _ _ (by (try dsimp only); first | exact m1 | go_keep) (fun hHeld => ?_)
        clear hK K
        try simp only [Act.put, List.getElem_toArray, List.getElem_cons_succ, List.getElem_cons_zero, List.setIfInBounds_toArray, List.set_cons_zero, List.set_cons_succ]
        refine tkz 10 rfl ?_
        refine wpAnyH_ready (rs := [11]) (by kernel_rfl) (by simp) ?_
        refine (AllReadyH.cons rfl (fun K hK => ?_) AllReadyH.nil)
        have k1 := F2.out.c 1 _ rfl
        have kf1 := F2.out.f 1 (by simp)
        go_simp
        obtain ⟨v_4, hw2⟩ : ∃ v_4, v_4 = v_3.setCell ⟨b2, 1, none⟩ (.slice va1 M1.length vc1) := ⟨_, rfl⟩
        change K _ (v_3.setCell ⟨b2, 1, none⟩ (.slice va1 M1.length vc1))
        rw [← hw2]
        clear k1 kf1
        have F1 : Hid (Blk v_4 b1 [.int .i64 0, .slice none 0 0]) := by rw [hw2]; exact F1.out.other (by omega)
        have F2 : Hid (Blk v_4 b2 [.int .i64 0, .slice va1 M1.length vc1]) := by rw [hw2]; exact F2.out.set _ (by simp)
        have FR : Hid (OwI v_4 w.heap.size (.slice (some ⟨g, 0, none⟩) L.length gc) L) := by rw [hw2]; exact FR.out.other (fun e => by have e2 : g = b2 := Option.some.inj e; omega) _
        have FC : Hid (C1 v_4 g i x) := by rw [hw2]; exact FC.out.other lg2
        have FB : Hid (Below w.heap.size w v_4) := by rw [hw2]; exact FB.out.setCell leb2 _
        have FQ : Hid (OwI v_4 B2 (.slice va1 M1.length vc1) M1) := by rw [hw2]; exact FQ.out.other (fun e => by have e2 : B2 ≤ b2 := (FQ.out.lt b2 e).1; omega) _
        clear hw2
        have m1 := FC.out.c
        refine hK.out _ _ (by (try dsimp only); first | exact m1 | go_keep) (fun hHeld => ?_)
        clear hK K
        try simp only [Act.put, List.getElem_toArray, List.getElem_cons_succ, List.getElem_cons_zero, List.setIfInBounds_toArray, List.set_cons_zero, List.set_cons_succ]
        refine wpAnyH_done (by kernel_rfl) ?_ _
        go_wp2_with fail
        go_roundw
        case rel => exact ⟨i + 1, va1, vc1, by simp, by omega, by rw [HN.out]; exact FQ.out, by rw [HN.out]; exact F2.out, F1.out, FR.out, own_size FQ.out (by rw [← HM1.out]; simp), FB.out⟩
        case measure => simp [intOf]; omega
      · go_simp
        refine (l10State_any a cap l x hl hkd _ ((HE.out.below FB.out (Nat.le_refl _)).mono FB.out.size)).mono ?_
        rintro e w_ ⟨rfl, hw⟩
        obtain rfl := hw.symm
        clear hw
        try dsimp only
        refine hK.out _ _ (by (try dsimp only); first | exact m1 | go_keep) (fun hHeld => ?_)
        clear hK K
        try simp only [Act.put, List.getElem_toArray, List.getElem_cons_succ, List.getElem_cons_zero, List.setIfInBounds_toArray, List.set_cons_zero, List.set_cons_succ]
        refine wpAnyH_ready (rs := [1, 8]) (by kernel_rfl) (by simp) ?_
        refine (AllReadyH.cons rfl (fun K hK => ?_) (AllReadyH.cons rfl (fun K hK => ?_) AllReadyH.nil))
        · have c0_ := F2.out.c 1 _ rfl
          go_simp
          refine hK.out _ _ (by (try dsimp only); first | exact m1 | go_keep) (fun hHeld => ?_)
          clear hK K
          try simp only [Act.put, List.getElem_toArray, List.getElem_cons_succ, List.getElem_cons_zero, List.setIfInBounds_toArray, List.set_cons_zero, List.set_cons_succ]
          refine wpAnyH_ready (rs := [8]) (by kernel_rfl) (by simp) ?_
          refine (AllReadyH.cons rfl (fun K hK => ?_) AllReadyH.nil)
          refine step_i rfl ?_
          go_simp
          obtain ⟨nb, hnb⟩ : ∃ nb, nb = v_1.heap.size := ⟨_, rfl⟩
          have ln1 : b2 < nb := by rw [hnb]; exact F2.out.lt
          obtain ⟨v_5, hw2⟩ : ∃ v_5, v_5 = v_1.alloc (.cells #[.int .i64 (stOf l x)] 2) := ⟨_, rfl⟩
          have F1 : Hid (Blk v_5 b1 [.int .i64 0, .slice none 0 0]) := by rw [hw2]; exact F1.out.alloc _
          have F2 : Hid (Blk v_5 b2 [.int .i64 0, (.slice va M.length vc)]) := by rw [hw2]; exact F2.out.alloc _
          have FO : Hid (OwI v_5 B2 (.slice va M.length vc) M) := by rw [hw2]; exact FO.out.alloc _
          have FR : Hid (OwI v_5 w.heap.size (.slice (some ⟨g, 0, none⟩) L.length gc) L) := by rw [hw2]; exact FR.out.alloc _
          have FC : Hid (C1 v_5 g i x) := by rw [hw2]; exact FC.out.alloc _
          have FZ : Hid (Below B2 wz v_5) := by rw [hw2]; exact FZ.out.alloc (by have := FZ.out.size; have := HBw.out; omega) _
          have FB : Hid (Below w.heap.size w v_5) := by rw [hw2]; exact FB.out.alloc FB.out.size _
          have FN : Hid (C1 v_5 nb 0 (stOf l x)) := by rw [hw2]; exact ⟨by rw [hnb]; simp⟩
          rw [← hw2, ← hnb]
          clear hw2 hnb
          have m1 := FC.out.c
          refine hK.out _ _ (by (try dsimp only); first | exact m1 | go_keep) (fun hHeld => ?_)
          clear hK K
          try simp only [Act.put, List.getElem_toArray, List.getElem_cons_succ, List.getElem_cons_zero, List.setIfInBounds_toArray, List.set_cons_zero, List.set_cons_succ]
          refine wpAnyH_ready (rs := [9]) (by kernel_rfl) (by simp) ?_
          refine (AllReadyH.cons rfl (fun K hK => ?_) AllReadyH.nil)
          refine step_i rfl ?_
          have FOx := FO
          refine wp_append_v B2 (.slice va M.length vc) M (stOf l x) rfl FO.out nb rfl FN.out.c (by omega) (by have := HBw.out; have := FZ.out.size; omega) ?_
          intro v1 v_6 ho hg
          rw [HM1.out] at ho
          obtain ⟨va1, vc1, rfl⟩ := ho.sl
          have F1 : Hid (Blk v_6 b1 [.int .i64 0, .slice none 0 0]) := F1.out.grown hg (fun e => by have e2 := (FOx.out.lt _ e.symm).1; omega)
          have F2 : Hid (Blk v_6 b2 [.int .i64 0, (.slice va M.length vc)]) := F2.out.grown hg (fun e => by have e2 := (FOx.out.lt _ e.symm).1; omega)
          have FR : Hid (OwI v_6 w.heap.size (.slice (some ⟨g, 0, none⟩) L.length gc) L) := FR.out.kept hg (Or.inr (fun e => by have e2 := (FOx.out.lt g e.symm).1; omega))
          have FC : Hid (C1 v_6 g i x) := FC.out.grown hg (fun e => by have e2 := (FOx.out.lt _ e.symm).1; omega)
          have FB : Hid (Below w.heap.size w v_6) := FB.out.grown hg FB.out.size (fun j hj => Nat.le_trans lB2 (FOx.out.lt j hj).1)
          have FQ : Hid (OwI v_6 B2 (.slice va1 M1.length vc1) M1) := ho
          clear ho hg
          have m1 := FC.out.c
          refine hK.out _ _ (by (try dsimp only); first | exact m1 | go_keep) (fun hHeld => ?_)
          clear hK K
          try simp only [Act.put, List.getElem_toArray, List.getElem_cons_succ, List.getElem_cons_zero, List.setIfInBounds_toArray, List.set_cons_zero, List.set_cons_succ]
          refine tkz 10 rfl ?_
          refine wpAnyH_ready (rs := [11]) (by kernel_rfl) (by simp) ?_
          refine (AllReadyH.cons rfl (fun K hK => ?_) AllReadyH.nil)
          have k1 := F2.out.c 1 _ rfl
          have kf1 := F2.out.f 1 (by simp)
          go_simp
          obtain ⟨v_7, hw2⟩ : ∃ v_7, v_7 = v_6.setCell ⟨b2, 1, none⟩ (.slice va1 M1.length vc1) := ⟨_, rfl⟩
          change K _ (v_6.setCell ⟨b2, 1, none⟩ (.slice va1 M1.length vc1))
          rw [← hw2]
          clear k1 kf1
          have F1 : Hid (Blk v_7 b1 [.int .i64 0, .slice none 0 0]) := by rw [hw2]; exact F1.out.other (by omega)
          have F2 : Hid (Blk v_7 b2 [.int .i64 0, .slice va1 M1.length vc1]) := by rw [hw2]; exact F2.out.set _ (by simp)
          have FR : Hid (OwI v_7 w.heap.size (.slice (some ⟨g, 0, none⟩) L.length gc) L) := by rw [hw2]; exact FR.out.other (fun e => by have e2 : g = b2 := Option.some.inj e; omega) _
          have FC : Hid (C1 v_7 g i x) := by rw [hw2]; exact FC.out.other lg2
          have FB : Hid (Below w.heap.size w v_7) := by rw [hw2]; exact FB.out.setCell leb2 _
          have FQ : Hid (OwI v_7 B2 (.slice va1 M1.length vc1) M1) := by rw [hw2]; exact FQ.out.other (fun e => by have e2 : B2 ≤ b2 := (FQ.out.lt b2 e).1; omega) _
          clear hw2
          have m1 := FC.out.c
          refine hK.out _ _ (by (try dsimp only); first | exact m1 | go_keep) (fun hHeld => ?_)
          clear hK K
          try simp only [Act.put, List.getElem_toArray, List.getElem_cons_succ, List.getElem_cons_zero, List.setIfInBounds_toArray, List.set_cons_zero, List.set_cons_succ]
          refine wpAnyH_done (by kernel_rfl) ?_ _
          go_wp2_with fail
          go_roundw
          case rel => exact ⟨i + 1, va1, vc1, by simp, by omega, by rw [HN.out]; exact FQ.out, by rw [HN.out]; exact F2.out, F1.out, FR.out, own_size FQ.out (by rw [← HM1.out]; simp), FB.out⟩
          case measure => simp [intOf]; omega
        · refine step_i rfl ?_
          go_simp
          obtain ⟨nb, hnb⟩ : ∃ nb, nb = v_1.heap.size := ⟨_, rfl⟩
          have ln1 : b2 < nb := by rw [hnb]; exact F2.out.lt
          obtain ⟨v_8, hw2⟩ : ∃ v_8, v_8 = v_1.alloc (.cells #[.int .i64 (stOf l x)] 2) := ⟨_, rfl⟩
          have F1 : Hid (Blk v_8 b1 [.int .i64 0, .slice none 0 0]) := by rw [hw2]; exact F1.out.alloc _
          have F2 : Hid (Blk v_8 b2 [.int .i64 0, (.slice va M.length vc)]) := by rw [hw2]; exact F2.out.alloc _
          have FO : Hid (OwI v_8 B2 (.slice va M.length vc) M) := by rw [hw2]; exact FO.out.alloc _
          have FR : Hid (OwI v_8 w.heap.size (.slice (some ⟨g, 0, none⟩) L.length gc) L) := by rw [hw2]; exact FR.out.alloc _
          have FC : Hid (C1 v_8 g i x) := by rw [hw2]; exact FC.out.alloc _
          have FZ : Hid (Below B2 wz v_8) := by rw [hw2]; exact FZ.out.alloc (by have := FZ.out.size; have := HBw.out; omega) _
          have FB : Hid (Below w.heap.size w v_8) := by rw [hw2]; exact FB.out.alloc FB.out.size _
          have FN : Hid (C1 v_8 nb 0 (stOf l x)) := by rw [hw2]; exact ⟨by rw [hnb]; simp⟩
          rw [← hw2, ← hnb]
          clear hw2 hnb
          have m1 := FC.out.c
          refine hK.out _ _ (by (try dsimp only); first | exact m1 | go_keep) (fun hHeld => ?_)
          clear hK K
          try simp only [Act.put, List.getElem_toArray, List.getElem_cons_succ, List.getElem_cons_zero, List.setIfInBounds_toArray, List.set_cons_zero, List.set_cons_succ]
          refine wpAnyH_ready (rs := [1]) (by kernel_rfl) (by simp) ?_
          refine (AllReadyH.cons rfl (fun K hK => ?_) AllReadyH.nil)
          have c0_ := F2.out.c 1 _ rfl
          go_simp
          refine hK.out _ _ (by (try dsimp only); first | exact m1 | go_keep) (fun hHeld => ?_)
          clear hK K
          try simp only [Act.put, List.getElem_toArray, List.getElem_cons_succ, List.getElem_cons_zero, List.setIfInBounds_toArray, List.set_cons_zero, List.set_cons_succ]
          refine wpAnyH_ready (rs := [9]) (by kernel_rfl) (by simp) ?_
          refine (AllReadyH.cons rfl (fun K hK => ?_) AllReadyH.nil)
          refine step_i rfl ?_
          have FOx := FO
          refine wp_append_v B2 (.slice va M.length vc) M (stOf l x) rfl FO.out nb rfl FN.out.c (by omega) (by have := HBw.out; have := FZ.out.size; omega) ?_
          intro v1 v_9 ho hg
          rw [HM1.out] at ho
          obtain ⟨va1, vc1, rfl⟩ := ho.sl
          have F1 : Hid (Blk v_9 b1 [.int .i64 0, .slice none 0 0]) := F1.out.grown hg (fun e => by have e2 := (FOx.out.lt _ e.symm).1; omega)
          have F2 : Hid (Blk v_9 b2 [.int .i64 0, (.slice va M.length vc)]) := F2.out.grown hg (fun e => by have e2 := (FOx.out.lt _ e.symm).1; omega)
          have FR : Hid (OwI v_9 w.heap.size (.slice (some ⟨g, 0, none⟩) L.length gc) L) := FR.out.kept hg (Or.inr (fun e => by have e2 := (FOx.out.lt g e.symm).1; omega))
          have FC : Hid (C1 v_9 g i x) := FC.out.grown hg (fun e => by have e2 := (FOx.out.lt _ e.symm).1; omega)
          have FB : Hid (Below w.heap.size w v_9) := FB.out.grown hg FB.out.size (fun j hj => Nat.le_trans lB2 (FOx.out.lt j hj).1)
          have FQ : Hid (OwI v_9 B2 (.slice va1 M1.length vc1) M1) := ho
          clear ho hg
          have m1 := FC.out.c
          refine hK.out _ _ (by (try dsimp only); first | exact m1 | go_keep) (fun hHeld => ?_)
          clear hK K
          try simp only [Act.put, List.getElem_toArray, List.getElem_cons_succ, List.getElem_cons_zero, List.setIfInBounds_toArray, List.set_cons_zero, List.set_cons_succ]
          refine tkz 10 rfl ?_
          refine wpAnyH_ready (rs := [11]) (by kernel_rfl) (by simp) ?_
          refine (AllReadyH.cons rfl (fun K hK => ?_) AllReadyH.nil)
          have k1 := F2.out.c 1 _ rfl
          have kf1 := F2.out.f 1 (by simp)
          go_simp
          obtain ⟨v_10, hw2⟩ : ∃ v_10, v_10 = v_9.setCell ⟨b2, 1, none⟩ (.slice va1 M1.length vc1) := ⟨_, rfl⟩
          change K _ (v_9.setCell ⟨b2, 1, none⟩ (.slice va1 M1.length vc1))
          rw [← hw2]
          clear k1 kf1
          have F1 : Hid (Blk v_10 b1 [.int .i64 0, .slice none 0 0]) := by rw [hw2]; exact F1.out.other (by omega)
          have F2 : Hid (Blk v_10 b2 [.int .i64 0, .slice va1 M1.length vc1]) := by rw [hw2]; exact F2.out.set _ (by simp)
          have FR : Hid (OwI v_10 w.heap.size (.slice (some ⟨g, 0, none⟩) L.length gc) L) := by rw [hw2]; exact FR.out.other (fun e => by have e2 : g = b2 := Option.some.inj e; omega) _
          have FC : Hid (C1 v_10 g i x) := by rw [hw2]; exact FC.out.other lg2
          have FB : Hid (Below w.heap.size w v_10) := by rw [hw2]; exact FB.out.setCell leb2 _
          have FQ : Hid (OwI v_10 B2 (.slice va1 M1.length vc1) M1) := by rw [hw2]; exact FQ.out.other (fun e => by have e2 : B2 ≤ b2 := (FQ.out.lt b2 e).1; omega) _
          clear hw2
          have m1 := FC.out.c
          refine hK.out _ _ (by (try dsimp only); first | exact m1 | go_keep) (fun hHeld => ?_)
          clear hK K
          try simp only [Act.put, List.getElem_toArray, List.getElem_cons_succ, List.getElem_cons_zero, List.setIfInBounds_toArray, List.set_cons_zero, List.set_cons_succ]
          refine wpAnyH_done (by kernel_rfl) ?_ _
          go_wp2_with fail
          go_roundw
          case rel => exact ⟨i + 1, va1, vc1, by simp, by omega, by rw [HN.out]; exact FQ.out, by rw [HN.out]; exact F2.out, F1.out, FR.out, own_size FQ.out (by rw [← HM1.out]; simp), FB.out⟩
          case measure => simp [intOf]; omega
    · have ei : i = L.length := by omega
      subst ei
      have FO4 : Hid (OwI wr w.heap.size (.slice va M.length vc) SL) := by
        have q := FO.out.base lB2
        have e : M = SL := by rw [← HMl.out, List.take_length, ← HSL.out]
        rw [e] at q ⊢
        exact q
      have FO5 : ∀ k, (Value.slice va M.length vc).ownBlock = some k → B2 ≤ k := fun k hk => (FO.out.lt k hk).1
      have HO : Hid (OwI (wr.setRow b1 #[.int .i64 0, .slice va M.length vc]) w.heap.size (.slice va M.length vc) SL) := by
        refine FO4.out.kept (row := some b1) ⟨rfl, rfl, rfl, by simp, fun k _ hne => setRow_other wr b1 k _ (fun q => hne (by rw [q]))⟩ ?_
        by_cases c : (Value.slice va M.length vc).ownBlock = some b1
        · exact absurd (FO5 _ c) (by omega)
        · exact Or.inr c
      clear FO FO4 FO5 hr
      go_wp2_with (first | (refine load_blk 28 _ Try.underlying28 (by kernel_rfl) F2.out rfl rfl rfl ?_) | (refine store_blk [.int .i64 0, .slice va M.length vc] 28 _ _ (by kernel_rfl) (by kernel_rfl) (by kernel_rfl) F1.out rfl rfl rfl rfl ?_))
      exact bodyPost_ret (v := .agg #[.int .i64 0, .slice va M.length vc]) ((F1.out.row [.int .i64 0, .slice va M.length vc]).res _ Try.results5 Try.underlying28 (by kernel_rfl) rfl) rfl ⟨⟨_, rfl, HO.out⟩, below_row FB.out leb1 _⟩
end Go.Proofs.Ytadikddilfbboaa
