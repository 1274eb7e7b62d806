/-
  What was seen: the journeys' ids, sorted (the library's contracts); StatesOf, the program.
-/
import Derived.Test.YtadikddilfbboaaEvY
import Derived.Test.YtadikddilfbboaaEvV
import Derived.Test.YtadikddilfbboaaShk
import Derived.Test.YtadikddilfbboaaInts
namespace Go.Proofs.Ytadikddilfbboaa
open Go.RowKit Go.Maps Go.Sort Go.Shelf Pl
set_option linter.unusedSimpArgs false
set_option linter.unusedVariables false

theorem sortsJ (m : Nat) : AnyZI.SortsIn Try.prog Shk.sorted_ren Fence.wide m :=
  ⟨fun blk off cap ss W hH hblk hsz => callsIn_wide.2 (AnyM.slices_Sort_int Shk.sort blk off cap ss W hH hblk hsz),
   fun p cap W => callsIn_wide.2 (AnyM.slices_Sort_int_none Shk.sort p cap W)⟩
theorem keysJ_any (mb : Option Nat) (W : World) :
    Calls Try.prog 20 #[.map mb] W fun e w' => e = .returned (.func (.func 34) #[] #[.pointer (some ⟨W.heap.size, 0, none⟩)]) ∧ w' = W.alloc (.cells #[.map mb] 46) :=
  (callsIn_wide (n := 5)).1 (AnyZI.keys_in Shk.keys Fence.wide 5 trivial rfl mb W)
set_option maxHeartbeats 1000000 in
theorem sortedJ_any (b nn : Nat) (D : DataW Value) (w : World) (hown : w.ownsMap Try.prog 2 RV b nn D) (hmax : Maps.size D ≤ 200000) :
    Calls Try.prog 19 #[.func (.func 34) #[] #[.pointer (some ⟨w.heap.size, 0, none⟩)]] (w.alloc (.cells #[.map (some b)] 46)) fun e w' => ∃ (v : Value) (ss : List Int), e = .returned v ∧ ss.Perm (intKeys D) ∧
      w'.ownsRow (w.alloc (.cells #[.map (some b)] 46)).heap.size 2 1 v ss.length ((ss.mergeSort (fun x y => decide (x ≤ y))).map encZ) ∧ (v = .slice none 0 0 ↔ ss = []) ∧ Below (w.alloc (.cells #[.map (some b)] 46)).heap.size (w.alloc (.cells #[.map (some b)] 46)) w' := by
  refine (callsIn_wide (n := 5)).1 ?_
  have hbl := hown.lt
  have hseq : SeqGives Fence.wide 2 Try.prog 34 #[.pointer (some ⟨w.heap.size, 0, none⟩)] encZ (fun ss => ss.Perm (intKeys D)) (Maps.size D) (w.alloc (.cells #[.map (some b)] 46)) :=
    AnyZI.keys_gives (ρ := Shk.keys_ren) { Shk.keys with } Fence.wide _ trivial rfl (by omega) w.heap.size b nn D _ (by simp) (by simp) (by
      obtain ⟨es, clock, hb, Ft, hs, hD⟩ := hown
      exact ⟨es, clock, (Below.heap_alloc _ _ b hbl).trans hb, Ft, hs, hD⟩)
  exact AnyZI.sorted_in Shk.sorted Fence.wide 5 trivial trivial trivial trivial rfl (by omega) (sortsJ _) (enters_of Try.func33 (by kernel_rfl) rfl) 34 #[.pointer (some ⟨w.heap.size, 0, none⟩)] trivial (enters_of Try.func34 (by kernel_rfl) rfl) _ _ (by unfold maxLen; omega) (by omega) _ hseq
theorem ids_perm {h : Hs} {l : List Ev} {D : DataW Value} {w : World} {b n : Nat} (hm : MapJ w b n D) (ht : TD D (jOf l)) (hj : Jt l) (hk : Hs.tr h l = 0) : (idsP 1 l).Perm (intKeys D) := by
  obtain ⟨_, _, hc⟩ := tr_codes hk
  have hn : (idsP 1 l).Nodup := by
    have q := calls_once (h := h) l.length (Nat.le_refl _) hc
    rw [List.take_length] at q
    exact q
  have c : CollectedI D (fun _ => false) (idsP 1 l) := by
    refine ⟨hn, fun x => ?_⟩
    rw [call_in]
    rcases hj.a x with ⟨j1, j2⟩ | ⟨j, j1, j2, _⟩
    · rw [j2, ht.n x j1]; simp
    · rw [j2, (ht.y x j j1).1]; simp
  exact c.perm hm.o keyI undI64 (fun _ => rfl)
theorem size_ids {h : Hs} {l : List Ev} {D : DataW Value} {w : World} {b n : Nat} (hm : MapJ w b n D) (ht : TD D (jOf l)) (hj : Jt l) (hk : Hs.tr h l = 0) : Maps.size D ≤ l.length := by
  have p := (ids_perm hm ht hj hk).length_eq
  obtain ⟨es, he⟩ := hm.isMap
  have e : Maps.size D = (intKeys D).length := by rw [he]; simp [Maps.size, intKeys]
  rw [e, ← p]
  unfold idsP
  rw [List.length_map]
  exact List.length_filter_le _ _
/-- The keys are the ids that called. -/
theorem keys_ids {h : Hs} {l : List Ev} {D : DataW Value} {w : World} {b n : Nat} (hm : MapJ w b n D) (ht : TD D (jOf l)) (hj : Jt l) (hk : Hs.tr h l = 0) {ss : List Int} (hp : ss.Perm (intKeys D)) : ss.mergeSort (fun x y => decide (x ≤ y)) = idsM 1 l := by
  have p2 := ids_perm hm ht hj hk
  have hs := idsM_at (kd := 1) (l := l) l.length (Nat.le_refl _)
  rw [List.take_length] at hs
  exact sorted_one (sort_sorted ss) hs.1 (((List.mergeSort_perm ss _).trans hp).trans (p2.symm.trans hs.2.1.symm))
theorem info64p : ∃ i, Try.prog.info? 2 = some i ∧ i.zero = some (.int .i64 0) ∧ i.size = 1 ∧ i.bytes = 8 := by
  obtain ⟨i, h1, h2, h3, h4⟩ := info_parts info64
  exact ⟨i, h1, h2, h3, h4⟩
set_option maxRecDepth 20000 in
theorem look_jn1 {w : World} {b n : Nat} {D : DataW Value} {f : Int → Option Jn} (h : MapJ w b n D) (t : TD D f) (id : Int) (j : Jn) (hj : f id = some j) (hw : (Lit.int .i64 id).wf = true) :
    (Instr.lookup 46 (.map (some b)) (.int .i64 id) false).run Try.prog w = .ok (jval j) w := by
  obtain ⟨v, ps, hrun, hv⟩ := h.o.lookup keyI undJM (zeroJ w) (zd := .held (.agg #[.int .i64 0, .int .i64 0, .int .i64 0, .int .i64 0, .int .i64 0, .int .i64 0, .int .i64 0])) (zp := []) rfl (keyOf_int_mk undI64 hw)
  rw [hrun]
  have e : (DataW.held v : DataW Value) = D.atKey (.int .i64 id) (.held (.agg #[.int .i64 0, .int .i64 0, .int .i64 0, .int .i64 0, .int .i64 0, .int .i64 0, .int .i64 0])) := by
    have q := Option.some.inj hv
    exact congrArg Prod.fst q
  rw [(t.y id j hj).2] at e
  injection e with e
  rw [e]
theorem MapJ.kept {w w' : World} {b n : Nat} {D : DataW Value} {row : Option Nat} (h : MapJ w b n D) (hg : w.grownBy w' row) (hne : row ≠ some b) : MapJ w' b n D := by
  have hl := h.lt
  obtain ⟨es, clock, hb, F, hs, hD⟩ := h.o
  exact ⟨es, clock, (hg.block b hl (fun q => hne q.symm)).trans hb, F, hs, hD⟩
theorem own_of_sorted {w : World} {B : Nat} {v : Value} {ss L : List Int} (h : w.ownsRow B 2 1 v ss.length ((ss.mergeSort (fun x y => decide (x ≤ y))).map encZ)) (e : ss.mergeSort (fun x y => decide (x ≤ y)) = L) : OwI w B v L := by
  have hl : ss.length = L.length := by rw [← e]; exact (List.length_mergeSort ss).symm
  rw [e, hl] at h
  exact h
theorem id_in {ss : List Int} {D : DataW Value} {x : Int} (hp : ss.Perm (intKeys D)) (hx : x ∈ ss.mergeSort (fun x y => decide (x ≤ y))) : x ∈ intKeys D := hp.mem_iff.1 ((List.mergeSort_perm ss _).mem_iff.1 hx)
set_option maxRecDepth 20000 in
set_option maxHeartbeats 32000000 in
theorem implStates_any (h : Hs) (l : List Ev) (a : Option Addr) (cap : Nat) (hl : l.length ≤ 1048576) (w : World) (hE : EIn w w.heap.size a l) :
    Calls Try.prog 8 #[.agg #[.int .i64 h.fl, .int .i64 h.gp, .int .i64 h.ln, .int .i64 h.rf, .int .i64 h.sp, .int .i64 h.pu, .int .i64 h.br, .int .i64 h.dr, .int .i64 h.lv, .int .i64 h.dO, .int .i64 h.ld, .int .i64 h.qu], .slice a l.length cap] w fun e w' => (∃ v, e = .returned (.agg #[.int .i64 (Hs.tr h l), v]) ∧ OwI w' w.heap.size v (statesL h l)) ∧ Below w.heap.size w w' := by
  have HE : Hid (EIn w w.heap.size a l) := hE
  clear hE
  obtain ⟨i0, hI0⟩ := info64p
  have hI : Hid (Try.prog.info? 2 = some i0 ∧ i0.zero = some (.int .i64 0) ∧ i0.size = 1 ∧ i0.bytes = 8) := hI0
  clear hI0
  obtain ⟨b0, hb0⟩ : ∃ b0, b0 = w.heap.size := ⟨_, rfl⟩
  obtain ⟨b1, hb1⟩ : ∃ b1, b1 = b0 + 1 := ⟨_, rfl⟩
  obtain ⟨W0, hW0⟩ : ∃ W0, W0 = (w.alloc (.cells #[.int .i64 h.fl, .int .i64 h.gp, .int .i64 h.ln, .int .i64 h.rf, .int .i64 h.sp, .int .i64 h.pu, .int .i64 h.br, .int .i64 h.dr, .int .i64 h.lv, .int .i64 h.dO, .int .i64 h.ld, .int .i64 h.qu] 30)).alloc (.cells #[.int .i64 0, .slice none 0 0] 28) := ⟨_, rfl⟩
  have F0 : Hid (Blk W0 b0 [.int .i64 h.fl, .int .i64 h.gp, .int .i64 h.ln, .int .i64 h.rf, .int .i64 h.sp, .int .i64 h.pu, .int .i64 h.br, .int .i64 h.dr, .int .i64 h.lv, .int .i64 h.dO, .int .i64 h.ld, .int .i64 h.qu]) := by rw [hW0]; exact (Blk.at_ w #[.int .i64 h.fl, .int .i64 h.gp, .int .i64 h.ln, .int .i64 h.rf, .int .i64 h.sp, .int .i64 h.pu, .int .i64 h.br, .int .i64 h.dr, .int .i64 h.lv, .int .i64 h.dO, .int .i64 h.ld, .int .i64 h.qu] _ _ hb0).alloc _
  have F1 : Hid (Blk W0 b1 [.int .i64 0, .slice none 0 0]) := by rw [hW0]; exact Blk.at_ _ #[.int .i64 0, .slice none 0 0] _ _ (by simp; omega)
  have FB : Hid (Below w.heap.size w W0) := by rw [hW0]; exact ((Below.refl _ _).alloc (Nat.le_refl _) _).alloc (by simp) _
  have leb1 : w.heap.size ≤ b1 := by omega
  obtain ⟨T, hT⟩ : ∃ T, Hs.tr h l = T := ⟨_, rfl⟩
  have HT : Hid (Hs.tr h l = T) := hT
  have HST : Hid (statesL h l = if T = 0 then (idsM 1 l).map (stOf l) else []) := by show statesL h l = _; unfold statesL; rw [hT]
  rw [hT]
  clear hT
  obtain ⟨SL, hSL⟩ : ∃ SL, statesL h l = SL := ⟨_, rfl⟩
  rw [hSL]
  rw [hSL] at HST
  clear hSL
  go_enter Try.func8, Try.ntmps8
  go_upto_region 1 with fail
  rw [← hb0, ← hb1, ← hW0]
  clear hb0 hb1 hW0
  go_upto_region 2 with (first | (refine load_blk 30 _ Try.underlying30 (by kernel_rfl) F0.out rfl rfl rfl ?_) | (go_at_call 18; refine (journeysIn_any h l a cap hl _ ((HE.out.below FB.out (Nat.le_refl _)).mono FB.out.size)).mono ?_; rw [HT.out]; rintro e w1 ⟨⟨vm, rfl, hm⟩, hb⟩; have HM : Hid (T = 0 → ∃ mb D, vm = .map (some mb) ∧ W0.heap.size ≤ mb ∧ MapJ w1 mb l.length D ∧ TD D (jOf l) ∧ Jt l) := hm; have F1 : Hid (Blk w1 b1 [.int .i64 0, .slice none 0 0]) := F1.out.below hb F1.out.lt; have FB : Hid (Below w.heap.size w w1) := FB.out.trans (hb.mono FB.out.size); clear hb hm))
  by_cases hz : T = 0
  case neg =>
    have hn : (T != 0) = true := by simpa using hz
    have e0 : SL = [] := by have q := HST.out; rw [if_neg hz] at q; exact q
    have HO : Hid (OwI (w1.setRow b1 #[.int .i64 T, .slice none 0 0]) w.heap.size (.slice none 0 0) SL) := by rw [e0]; exact owi_nil _ _
    clear e0 hz
    go_wp2_with (refine store_blk [.int .i64 T, .slice none 0 0] 28 _ _ (by kernel_rfl) (by kernel_rfl) (by kernel_rfl) F1.out rfl rfl rfl rfl ?_)
    exact bodyPost_ret (v := .agg #[.int .i64 T, .slice none 0 0]) ((F1.out.row [.int .i64 T, .slice none 0 0]).res _ Try.results8 Try.underlying28 (by kernel_rfl) rfl) rfl ⟨⟨_, rfl, HO.out⟩, below_row FB.out leb1 _⟩
  case pos =>
  subst hz
  obtain ⟨mb, D, rfl, hmb, hMJ, hTD, hJt⟩ := HM.out rfl
  have HTD : Hid (TD D (jOf l)) := hTD
  have HJ : Hid (Jt l) := hJt
  have FM : Hid (MapJ w1 mb l.length D) := hMJ
  have hmx : Maps.size D ≤ 200000 := by
    have q := size_ids hMJ hTD hJt HT.out
    have := (tr_codes HT.out).2.1
    omega
  clear hTD hJt hMJ HM hmb F0
  go_upto_region 6 with (first | (go_at_call 20; refine (keysJ_any _ _).mono ?_; rintro e w2 ⟨rfl, hw2⟩; have HW2 : Hid (w2 = w1.alloc (.cells #[.map (some mb)] 46)) := hw2; clear hw2) | (go_at_call 19; rw [HW2.out]; refine (sortedJ_any mb _ D w1 FM.out.o hmx).mono ?_; rintro e w3 ⟨vs, ss, rfl, hp, hrow, hnil, hb⟩; have HP : Hid (ss.Perm (intKeys D)) := hp; have FR0 : Hid (OwI w3 w.heap.size vs (idsM 1 l)) := (own_of_sorted hrow (keys_ids FM.out HTD.out HJ.out HT.out hp)).base (by have := FB.out.size; simp; omega); have HID : Hid (∀ x, x ∈ idsM 1 l → (Lit.int .i64 x).wf = true) := (fun x hx => intKeys_wf FM.out.o undI64 x (id_in hp (by rw [keys_ids FM.out HTD.out HJ.out HT.out hp]; exact hx))); have FM : Hid (MapJ w3 mb l.length D) := (FM.out.alloc _).below hb (by have := FM.out.lt; simp; omega); have F1 : Hid (Blk w3 b1 [.int .i64 0, .slice none 0 0]) := (F1.out.alloc _).below hb (by have := F1.out.lt; simp; omega); have FB : Hid (Below w.heap.size w w3) := (FB.out.alloc FB.out.size _).trans (hb.mono (by have := FB.out.size; simp; omega)); obtain ⟨ga, gc, rfl⟩ := FR0.out.sl; clear hb hrow hnil hp))
  obtain ⟨L, hL⟩ : ∃ L, idsM 1 l = L := ⟨_, rfl⟩
  rw [hL] at FR0 HID ⊢
  have FR : Hid (OwI w3 w.heap.size (.slice ga L.length gc) L) := FR0.out
  have HLx : Hid (∀ x, x ∈ L → ∃ j, jOf l x = some j ∧ j.st = stOf l x) := fun x hx => by
    have h1 : x ∈ idsP 1 l := by
      have hs := idsM_at (kd := 1) (l := l) l.length (Nat.le_refl _)
      rw [List.take_length, hL] at hs
      exact hs.2.1.mem_iff.1 hx
    rcases HJ.out.a x with ⟨_, j2⟩ | ⟨j, j1, _, j3⟩
    · exact absurd j2 (call_in.1 h1)
    · exact ⟨j, j1, j3⟩
  have HSL : Hid (SL = L.map (stOf l)) := by show SL = L.map (stOf l); have q := HST.out; rw [hL] at q; simpa using q
  have hLl : L.length ≤ 200 := by
    have hs := idsM_at (kd := 1) (l := l) l.length (Nat.le_refl _)
    rw [List.take_length, hL] at hs
    have := (tr_codes HT.out).2.1
    omega
  clear hL FR0 HJ HST HT hmx
  obtain ⟨B2, hB2⟩ : ∃ B2, B2 = w3.heap.size := ⟨_, rfl⟩
  have lb1 : b1 < B2 := by rw [hB2]; exact F1.out.lt
  have lmb : mb < B2 := by rw [hB2]; exact FM.out.lt
  have lg : ∀ k, (Value.slice ga L.length gc).ownBlock = some k → k < B2 := fun k hk => by rw [hB2]; exact (FR.out.lt k hk).2
  have lB2 : w.heap.size ≤ B2 := by rw [hB2]; exact FB.out.size
  have HB2 : Hid (B2 ≤ w3.heap.size) := by show B2 ≤ _; omega
  clear hB2
  go_loopw [7, 24] (fun vv ii wr => ∃ (i : Nat) (v : Value), vv = v ∧ ii = .int .i64 i ∧ i ≤ L.length ∧ OwI wr B2 v ((L.take i).map (stOf l)) ∧ OwI wr w.heap.size (.slice ga L.length gc) L ∧ MapJ wr mb l.length D ∧ Blk wr b1 [.int .i64 0, .slice none 0 0] ∧ B2 ≤ wr.heap.size ∧ Below w.heap.size w wr) (fun _ ii _ => L.length - (intOf ii).toNat)
  case atStart => exact ⟨0, _, rfl, rfl, by omega, owi_nil _ _, FR.out, FM.out, F1.out, HB2.out, FB.out⟩
  case round =>
    obtain ⟨i, v, hvv, rfl, hi, ho, hr, hm, hf, hB, hb⟩ := hrel
    have hvv' := hvv.symm
    subst hvv'
    have FO : Hid (OwI wr B2 v ((L.take i).map (stOf l))) := ho
    have FR : Hid (OwI wr w.heap.size (.slice ga L.length gc) L) := hr
    have FM : Hid (MapJ wr mb l.length D) := hm
    have F1 : Hid (Blk wr b1 [.int .i64 0, .slice none 0 0]) := hf
    have FB : Hid (Below w.heap.size w wr) := hb
    have HBw : Hid (B2 ≤ wr.heap.size) := hB
    clear ho hr hm hf hb hB HB2
    by_cases hlt : i < L.length
    · obtain ⟨x, hx⟩ : ∃ x, L[i]? = some x := ⟨_, List.getElem?_eq_getElem hlt⟩
      rcases FR.out.cases with ⟨_, h0⟩ | ⟨g, gc', e⟩
      · rw [h0] at hlt; simp at hlt
      injection e with e1 e2 e3
      subst e1
      clear e2 e3
      have c0 := FR.out.cell hx
      obtain ⟨j, hj, hst⟩ := HLx.out x (List.mem_of_getElem? hx)
      have hlk := look_jn1 FM.out HTD.out x j hj (HID.out x (List.mem_of_getElem? hx))
      have fj : ∀ W, (Instr.field 54 (jval j) 2).run Try.prog W = .ok (.int .i64 j.st) W := fun W => by kernel_rfl
      have HN : Hid ((L.take (i + 1)).map (stOf l) = (L.take i).map (stOf l) ++ [j.st]) := by
        show (L.take (i + 1)).map (stOf l) = _
        have hi' : i < L.length := hlt
        have q : L[i] = x := (List.getElem?_eq_some_iff.1 hx).2
        rw [List.take_succ_eq_append_getElem hi', List.map_append, q, hst]
        rfl
      have hlen : ((L.take i).map (stOf l)).length ≤ 200 := by rw [List.length_map, List.length_take]; omega
      have lz := HBw.out
      obtain ⟨M, hM⟩ : ∃ M, (L.take i).map (stOf l) = M := ⟨_, rfl⟩
      rw [hM] at FO HN hlen
      clear hx hj hst hM
      go_wp2_with (at_builtin; go_loud (refine wpList_append_own _ rfl _ _ 26 rfl B2 2 i0 (.int .i64 0) 1 8 undI64S hI.out.1 hI.out.2.1 hI.out.2.2.1 hI.out.2.2.2 rfl (by omega) _ M.length _ rfl (FO.out.alloc _) ⟨wr.heap.size, 0, none⟩ 1 1 [.int .i64 j.st] rfl rfl (one_new wr j.st _) (one_cell j.st) (by unfold maxLen; omega) (by omega) (by simp; omega) ?_); intro v1 w4 ho hg hn; have FO3 : Hid (OwI w4 B2 v1 ((L.take (i + 1)).map (stOf l))) := (by rw [HN.out]; unfold OwI; rw [List.length_append]; have e : intsV (M ++ [j.st]) = intsV M ++ [.int .i64 j.st] := (by simp [intsV]); rw [e]; exact ho); have FB3 : Hid (Below w.heap.size w w4) := (FB.out.alloc FB.out.size _).grown hg (by simp; omega) (fun k hk => Nat.le_trans lB2 (FO.out.lt k hk).1); have FR3 : Hid (OwI w4 w.heap.size (.slice (some ⟨g, 0, none⟩) L.length gc) L) := (FR.out.alloc _).kept hg (Or.inr (fun q => by have h1 := lg g rfl; have h2 := (FO.out.lt g (q.symm.trans rfl)).1; omega)); have FM3 : Hid (MapJ w4 mb l.length D) := (FM.out.alloc _).kept hg (fun q => by have h2 := (FO.out.lt mb q).1; omega); have F13 : Hid (Blk w4 b1 [.int .i64 0, .slice none 0 0]) := (F1.out.alloc _).grown hg (fun q => by have h2 := (FO.out.lt b1 q.symm).1; omega); have HB3 : Hid (B2 ≤ w4.heap.size) := (Nat.le_trans lz (Nat.le_trans (by simp) hg.size)); clear ho hg hn)
      go_roundw
      case rel => first | exact ⟨i + 1, v1, rfl, by simp, by omega, FO3.out, FR3.out, FM3.out, F13.out, HB3.out, FB3.out⟩ | exact ⟨v1, .int .i64 x, .int .i64 ((i : Int) + 1), ⟨i + 1, by simp, by omega, by rw [← List.map_take]; exact FO3.out, FR3.out, FM3.out, F13.out, HB3.out, FB3.out⟩, rfl, rfl, rfl⟩
      case measure => simp [intOf]; omega
    · have ei : i = L.length := by omega
      subst ei
      have FO4 : Hid (OwI wr w.heap.size v SL) := by
        have q := FO.out.base lB2
        rw [List.take_length, ← HSL.out] at q
        exact q
      have FO5 : ∀ k, v.ownBlock = some k → B2 ≤ k := fun k hk => (FO.out.lt k hk).1
      clear FO
      obtain ⟨va, vc, rfl⟩ := FO4.out.sl
      have HO : Hid (OwI (wr.setRow b1 #[.int .i64 0, .slice va SL.length vc]) w.heap.size (.slice va SL.length vc) SL) := by
        refine FO4.out.kept (row := some b1) ⟨rfl, rfl, rfl, by simp, fun k _ hne => setRow_other wr b1 k _ (fun q => hne (by rw [q]))⟩ ?_
        by_cases c : (Value.slice va SL.length vc).ownBlock = some b1
        · exact absurd (FO5 _ c) (by omega)
        · exact Or.inr c
      go_wp2_with (refine store_blk [.int .i64 0, .slice va SL.length vc] 28 _ _ (by kernel_rfl) (by kernel_rfl) (by kernel_rfl) F1.out rfl rfl rfl rfl ?_)
      exact bodyPost_ret (v := .agg #[.int .i64 0, .slice va SL.length vc]) ((F1.out.row [.int .i64 0, .slice va SL.length vc]).res _ Try.results8 Try.underlying28 (by kernel_rfl) rfl) rfl ⟨⟨_, rfl, HO.out⟩, below_row FB.out leb1 _⟩
end Go.Proofs.Ytadikddilfbboaa
