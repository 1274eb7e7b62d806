/-
  What was seen: WaitsOf, the program.
-/
import Derived.Test.YtdklllfafafmeaaEvC
import Derived.Test.YtdklllfafafmeaaEvZ
namespace Go.Proofs.Ytdklllfafafmeaa
open Go.RowKit Go.Maps Go.Sort Go.Shelf Pl
set_option linter.unusedSimpArgs false
set_option linter.unusedVariables false

theorem tick_bd {h : Hs} {l : List Ev} (k : Hs.tr h l = 0) (e : Ev) (he : e ∈ l) : 0 ≤ e.tk ∧ e.tk ≤ 1000000000000000 := by
  obtain ⟨j, hj, q⟩ := List.mem_iff_getElem.1 he
  have c := (tr_codes k).2.2 j hj
  unfold Hs.codeI at c
  rw [List.getElem?_eq_getElem hj, q] at c
  dsimp only at c
  have ce : Hs.evC h e = 0 := by
    split at c
    · rename_i z; exact z
    · exact c
  unfold Hs.evC at ce
  split at ce
  · rename_i z
    have z1 := (Bool.and_eq_true _ _).mp z
    exact inB_iff.1 z1.1
  · cases ce
theorem waitsAt_len {h : Hs} {l : List Ev} (k : Hs.tr h l = 0) (x : Int) : (waitsAt l x).length ≤ 1 := by
  unfold waitsAt
  rw [List.length_map]
  exact boards_one k x
theorem flat_len {f : Int → List Int} (h : ∀ x, (f x).length ≤ 1) : ∀ l : List Int, (l.flatMap f).length ≤ l.length
  | [] => Nat.le_refl _
  | x :: xs => by
    rw [List.flatMap_cons, List.length_append, List.length_cons]
    have := flat_len h xs
    have := h x
    omega
set_option maxRecDepth 20000 in
set_option maxHeartbeats 8000000 in
theorem hasB_any (j : Jn) (w : World) : Calls Try.prog 21 #[.agg #[.int .i64 j.cl.tk, .int .i64 j.cl.kd, .int .i64 j.cl.id, .int .i64 j.cl.fl, .int .i64 j.cl.tw, .int .i64 j.bd, .int .i64 j.st]] w fun e w' => e = .returned (.bool (j.st != 0 && j.st != 4)) ∧ Below w.heap.size w w' := by
  have F : Hid (Blk (w.alloc (.cells #[.int .i64 j.cl.tk, .int .i64 j.cl.kd, .int .i64 j.cl.id, .int .i64 j.cl.fl, .int .i64 j.cl.tw, .int .i64 j.bd, .int .i64 j.st] 55)) w.heap.size [.int .i64 j.cl.tk, .int .i64 j.cl.kd, .int .i64 j.cl.id, .int .i64 j.cl.fl, .int .i64 j.cl.tw, .int .i64 j.bd, .int .i64 j.st]) := Blk.at_ w _ _ _ rfl
  have FB : Hid (Below w.heap.size w (w.alloc (.cells #[.int .i64 j.cl.tk, .int .i64 j.cl.kd, .int .i64 j.cl.id, .int .i64 j.cl.fl, .int .i64 j.cl.tw, .int .i64 j.bd, .int .i64 j.st] 55))) := (Below.refl _ _).alloc (Nat.le_refl _) _
  have c6 := F.out.c 6 _ rfl
  cases h0 : (j.st != 0)
  · go_enter Try.func21, Try.ntmps21
    go_wp2
    go_ret
    exact ⟨by simp, FB.out⟩
  · cases h4 : (j.st != 4)
    · go_enter Try.func21, Try.ntmps21
      go_wp2
      go_ret
      exact ⟨by simp, FB.out⟩
    · go_enter Try.func21, Try.ntmps21
      go_wp2
      go_ret
      exact ⟨by simp, FB.out⟩
set_option maxRecDepth 20000 in
set_option maxHeartbeats 32000000 in
theorem implWaits_any (h : Hs) (l : List Ev) (a : Option Addr) (cap : Nat) (hl : l.length ≤ 1048576) (w : World) (hE : EIn w w.heap.size a l) :
    Calls Try.prog 8 #[.agg #[.int .i64 h.fl, .int .i64 h.gp, .int .i64 h.ln, .int .i64 h.rf, .int .i64 h.sp, .int .i64 h.pu, .int .i64 h.br, .int .i64 h.dr, .int .i64 h.lv, .int .i64 h.dO, .int .i64 h.ld, .int .i64 h.qu], .slice a l.length cap] w fun e w' => (∃ v, e = .returned (.agg #[.int .i64 (Hs.tr h l), v]) ∧ OwI w' w.heap.size v (waitsL h l)) ∧ Below w.heap.size w w' := by
  have HE : Hid (EIn w w.heap.size a l) := hE
  clear hE
  obtain ⟨i0, hI0⟩ := info64p
  have hI : Hid (Try.prog.info? 2 = some i0 ∧ i0.zero = some (.int .i64 0) ∧ i0.size = 1 ∧ i0.bytes = 8) := hI0
  clear hI0
  obtain ⟨b0, hb0⟩ : ∃ b0, b0 = w.heap.size := ⟨_, rfl⟩
  obtain ⟨b1, hb1⟩ : ∃ b1, b1 = b0 + 1 := ⟨_, rfl⟩
  obtain ⟨W0, hW0⟩ : ∃ W0, W0 = (w.alloc (.cells #[.int .i64 h.fl, .int .i64 h.gp, .int .i64 h.ln, .int .i64 h.rf, .int .i64 h.sp, .int .i64 h.pu, .int .i64 h.br, .int .i64 h.dr, .int .i64 h.lv, .int .i64 h.dO, .int .i64 h.ld, .int .i64 h.qu] 30)).alloc (.cells #[.int .i64 0, .slice none 0 0] 28) := ⟨_, rfl⟩
  have F0 : Hid (Blk W0 b0 [.int .i64 h.fl, .int .i64 h.gp, .int .i64 h.ln, .int .i64 h.rf, .int .i64 h.sp, .int .i64 h.pu, .int .i64 h.br, .int .i64 h.dr, .int .i64 h.lv, .int .i64 h.dO, .int .i64 h.ld, .int .i64 h.qu]) := by rw [hW0]; exact (Blk.at_ w #[.int .i64 h.fl, .int .i64 h.gp, .int .i64 h.ln, .int .i64 h.rf, .int .i64 h.sp, .int .i64 h.pu, .int .i64 h.br, .int .i64 h.dr, .int .i64 h.lv, .int .i64 h.dO, .int .i64 h.ld, .int .i64 h.qu] _ _ hb0).alloc _
  have F1 : Hid (Blk W0 b1 [.int .i64 0, .slice none 0 0]) := by rw [hW0]; exact Blk.at_ _ #[.int .i64 0, .slice none 0 0] _ _ (by simp; omega)
  have FB : Hid (Below w.heap.size w W0) := by rw [hW0]; exact ((Below.refl _ _).alloc (Nat.le_refl _) _).alloc (by simp) _
  have leb1 : w.heap.size ≤ b1 := by omega
  obtain ⟨T, hT⟩ : ∃ T, Hs.tr h l = T := ⟨_, rfl⟩
  have HT : Hid (Hs.tr h l = T) := hT
  have HST : Hid (waitsL h l = if T = 0 then (idsM 1 l).flatMap (waitsAt l) else []) := by show waitsL h l = _; unfold waitsL; rw [hT]
  rw [hT]
  clear hT
  obtain ⟨SL, hSL⟩ : ∃ SL, waitsL h l = SL := ⟨_, rfl⟩
  rw [hSL]
  rw [hSL] at HST
  clear hSL
  go_enter Try.func8, Try.ntmps8
  go_upto_region 1 with fail
  rw [← hb0, ← hb1, ← hW0]
  clear hb0 hb1 hW0
  go_upto_region 2 with (first | (refine load_blk 30 _ Try.underlying30 (by kernel_rfl) F0.out rfl rfl rfl ?_) | (go_at_call 18; refine (journeysIn_any h l a cap hl _ ((HE.out.below FB.out (Nat.le_refl _)).mono FB.out.size)).mono ?_; rw [HT.out]; rintro e w1 ⟨⟨vm, rfl, hm⟩, hb⟩; have HM : Hid (T = 0 → ∃ mb D, vm = .map (some mb) ∧ W0.heap.size ≤ mb ∧ MapJ w1 mb l.length D ∧ TD D (jOf l) ∧ Jt l) := hm; have F1 : Hid (Blk w1 b1 [.int .i64 0, .slice none 0 0]) := F1.out.below hb F1.out.lt; have FB : Hid (Below w.heap.size w w1) := FB.out.trans (hb.mono FB.out.size); clear hb hm))
  by_cases hz : T = 0
  case neg =>
    have hn : (T != 0) = true := by simpa using hz
    have e0 : SL = [] := by have q := HST.out; rw [if_neg hz] at q; exact q
    have HO : Hid (OwI (w1.setRow b1 #[.int .i64 T, .slice none 0 0]) w.heap.size (.slice none 0 0) SL) := by rw [e0]; exact owi_nil _ _
    clear e0 hz
    go_wp2_with (refine store_blk [.int .i64 T, .slice none 0 0] 28 _ _ (by kernel_rfl) (by kernel_rfl) (by kernel_rfl) F1.out rfl rfl rfl rfl ?_)
    exact bodyPost_ret (v := .agg #[.int .i64 T, .slice none 0 0]) ((F1.out.row [.int .i64 T, .slice none 0 0]).res _ Try.results8 Try.underlying28 (by kernel_rfl) rfl) rfl ⟨⟨_, rfl, HO.out⟩, below_row FB.out leb1 _⟩
  case pos =>
  subst hz
  have hk0 : Hs.tr h l = 0 := HT.out
  obtain ⟨mb, D, rfl, hmb, hMJ, hTD, hJt⟩ := HM.out rfl
  have HTD : Hid (TD D (jOf l)) := hTD
  have HJ : Hid (Jt l) := hJt
  have FM : Hid (MapJ w1 mb l.length D) := hMJ
  have hmx : Maps.size D ≤ 200000 := by
    have q := size_ids hMJ hTD hJt HT.out
    have := (tr_codes HT.out).2.1
    omega
  clear hTD hJt hMJ HM hmb F0
  go_upto_region 6 with (first | (go_at_call 20; refine (keysJ_any _ _).mono ?_; rintro e w2 ⟨rfl, hw2⟩; have HW2 : Hid (w2 = w1.alloc (.cells #[.map (some mb)] 47)) := hw2; clear hw2) | (go_at_call 19; rw [HW2.out]; refine (sortedJ_any mb _ D w1 FM.out.o hmx).mono ?_; rintro e w3 ⟨vs, ss, rfl, hp, hrow, hnil, hb⟩; have HP : Hid (ss.Perm (intKeys D)) := hp; have FR0 : Hid (OwI w3 w.heap.size vs (idsM 1 l)) := (own_of_sorted hrow (keys_ids FM.out HTD.out HJ.out HT.out hp)).base (by have := FB.out.size; simp; omega); have HID : Hid (∀ x, x ∈ idsM 1 l → (Lit.int .i64 x).wf = true) := (fun x hx => intKeys_wf FM.out.o undI64 x (id_in hp (by rw [keys_ids FM.out HTD.out HJ.out HT.out hp]; exact hx))); have FM : Hid (MapJ w3 mb l.length D) := (FM.out.alloc _).below hb (by have := FM.out.lt; simp; omega); have F1 : Hid (Blk w3 b1 [.int .i64 0, .slice none 0 0]) := (F1.out.alloc _).below hb (by have := F1.out.lt; simp; omega); have FB : Hid (Below w.heap.size w w3) := (FB.out.alloc FB.out.size _).trans (hb.mono (by have := FB.out.size; simp; omega)); obtain ⟨ga, gc, rfl⟩ := FR0.out.sl; clear hb hrow hnil hp))
  obtain ⟨L, hL⟩ : ∃ L, idsM 1 l = L := ⟨_, rfl⟩
  rw [hL] at FR0 HID ⊢
  have FR : Hid (OwI w3 w.heap.size (.slice ga L.length gc) L) := FR0.out
  have HLx : Hid (∀ x, x ∈ L → ∃ j, jOf l x = some j ∧ 0 ≤ j.st ∧ j.st ≤ 4 ∧ waitsAt l x = (if 1 ≤ j.st ∧ j.st ≤ 3 then [j.bd - j.cl.tk] else []) ∧ (1 ≤ j.st ∧ j.st ≤ 3 → (0 ≤ j.bd ∧ j.bd ≤ 1000000000000000) ∧ (0 ≤ j.cl.tk ∧ j.cl.tk ≤ 1000000000000000))) := fun x hx => by
    have h1 : x ∈ idsP 1 l := by
      have hs := idsM_at (kd := 1) (l := l) l.length (Nat.le_refl _)
      rw [List.take_length, hL] at hs
      exact hs.2.1.mem_iff.1 hx
    rcases HJ.out.a x with ⟨_, j2⟩ | ⟨j, j1, j2, j3⟩
    · exact absurd j2 (call_in.1 h1)
    · rcases (bt_of HT.out).1.a x with ⟨q, _⟩ | ⟨j', q, q1, q2, q3⟩
      · rw [j1] at q; cases q
      · rw [j1] at q
        cases q
        refine ⟨j, j1, q1, q2, ?_, ?_⟩
        · unfold waitsAt
          rw [q3, j2]
          split
          · rfl
          · rfl
        · intro hst
          rw [if_pos hst] at q3
          refine ⟨?_, tick_bd HT.out _ (List.mem_of_find?_eq_some j2)⟩
          have hm : j.bd ∈ boards l x := by rw [q3]; simp
          unfold boards at hm
          obtain ⟨e, he, hee⟩ := List.mem_map.1 hm
          rw [← hee]
          exact tick_bd HT.out e (List.mem_filter.1 he).1
  have HSL : Hid (SL = L.flatMap (waitsAt l)) := by show SL = L.flatMap (waitsAt l); have q := HST.out; rw [hL] at q; simpa using q
  have hLl : L.length ≤ 200 := by
    have hs := idsM_at (kd := 1) (l := l) l.length (Nat.le_refl _)
    rw [List.take_length, hL] at hs
    have := (tr_codes HT.out).2.1
    omega
  clear hL FR0 HJ HST HT hmx
  obtain ⟨B2, hB2⟩ : ∃ B2, B2 = w3.heap.size := ⟨_, rfl⟩
  have lb1 : b1 < B2 := by rw [hB2]; exact F1.out.lt
  have lmb : mb < B2 := by rw [hB2]; exact FM.out.lt
  have lg : ∀ k, (Value.slice ga L.length gc).ownBlock = some k → k < B2 := fun k hk => by rw [hB2]; exact (FR.out.lt k hk).2
  have lB2 : w.heap.size ≤ B2 := by rw [hB2]; exact FB.out.size
  have HB2 : Hid (B2 ≤ w3.heap.size) := by show B2 ≤ _; omega
  clear hB2
  go_loopw [7, 25] (fun vv ii wr => ∃ (i : Nat) (v : Value), vv = v ∧ ii = .int .i64 i ∧ i ≤ L.length ∧ OwI wr B2 v ((L.take i).flatMap (waitsAt l)) ∧ OwI wr w.heap.size (.slice ga L.length gc) L ∧ MapJ wr mb l.length D ∧ Blk wr b1 [.int .i64 0, .slice none 0 0] ∧ B2 ≤ wr.heap.size ∧ Below w.heap.size w wr) (fun _ ii _ => L.length - (intOf ii).toNat)
  case atStart => exact ⟨0, _, rfl, rfl, by omega, owi_nil _ _, FR.out, FM.out, F1.out, HB2.out, FB.out⟩
  case round =>
    obtain ⟨i, v, hvv, rfl, hi, ho, hr, hm, hf, hB, hb⟩ := hrel
    have hvv' := hvv.symm
    subst hvv'
    have FO : Hid (OwI wr B2 v ((L.take i).flatMap (waitsAt l))) := ho
    have FR : Hid (OwI wr w.heap.size (.slice ga L.length gc) L) := hr
    have FM : Hid (MapJ wr mb l.length D) := hm
    have F1 : Hid (Blk wr b1 [.int .i64 0, .slice none 0 0]) := hf
    have FB : Hid (Below w.heap.size w wr) := hb
    have HBw : Hid (B2 ≤ wr.heap.size) := hB
    clear ho hr hm hf hb hB HB2
    by_cases hlt : i < L.length
    · obtain ⟨x, hx⟩ : ∃ x, L[i]? = some x := ⟨_, List.getElem?_eq_getElem hlt⟩
      rcases FR.out.cases with ⟨_, h0⟩ | ⟨g, gc', e⟩
      · rw [h0] at hlt; simp at hlt
      injection e with e1 e2 e3
      subst e1
      clear e2 e3
      have c0 := FR.out.cell hx
      obtain ⟨j, hj, hs0, hs4, hwt, hbb⟩ := HLx.out x (List.mem_of_getElem? hx)
      have hlk := look_jn1 FM.out HTD.out x j hj (HID.out x (List.mem_of_getElem? hx))
      have HN0 : Hid ((L.take (i + 1)).flatMap (waitsAt l) = (L.take i).flatMap (waitsAt l) ++ waitsAt l x) := by
        show (L.take (i + 1)).flatMap (waitsAt l) = _
        have hi' : i < L.length := hlt
        have q : L[i] = x := (List.getElem?_eq_some_iff.1 hx).2
        rw [List.take_succ_eq_append_getElem hi', List.flatMap_append, q]
        simp
      have hlen : ((L.take i).flatMap (waitsAt l)).length ≤ 200 := by
        have q := flat_len (fun y => waitsAt_len hk0 y) (L.take i)
        rw [List.length_take] at q
        omega
      obtain ⟨M, hM⟩ : ∃ M, (L.take i).flatMap (waitsAt l) = M := ⟨_, rfl⟩
      rw [hM] at FO HN0 hlen
      clear hx hj hM
      have hjv : jval j = .agg #[.int .i64 j.cl.tk, .int .i64 j.cl.kd, .int .i64 j.cl.id, .int .i64 j.cl.fl, .int .i64 j.cl.tw, .int .i64 j.bd, .int .i64 j.st] := rfl
      rw [hjv] at hlk
      go_upto_region 9 with (refine store_new [.int .i64 j.cl.tk, .int .i64 j.cl.kd, .int .i64 j.cl.id, .int .i64 j.cl.fl, .int .i64 j.cl.tw, .int .i64 j.bd, .int .i64 j.st] 55 _ _ (by kernel_rfl) (by kernel_rfl) (by kernel_rfl) rfl rfl rfl rfl ?_)
      obtain ⟨jb, hjb⟩ : ∃ jb, jb = wr.heap.size := ⟨_, rfl⟩
      obtain ⟨w5, hw5⟩ : ∃ w5, w5 = wr.alloc (.cells #[.int .i64 j.cl.tk, .int .i64 j.cl.kd, .int .i64 j.cl.id, .int .i64 j.cl.fl, .int .i64 j.cl.tw, .int .i64 j.bd, .int .i64 j.st] 55) := ⟨_, rfl⟩
      have FO : Hid (OwI w5 B2 v M) := by rw [hw5]; exact FO.out.alloc _
      have FR : Hid (OwI w5 w.heap.size (.slice (some ⟨g, 0, none⟩) L.length gc) L) := by rw [hw5]; exact FR.out.alloc _
      have FM : Hid (MapJ w5 mb l.length D) := by rw [hw5]; exact FM.out.alloc _
      have F1 : Hid (Blk w5 b1 [.int .i64 0, .slice none 0 0]) := by rw [hw5]; exact F1.out.alloc _
      have FJ : Hid (Blk w5 jb [.int .i64 j.cl.tk, .int .i64 j.cl.kd, .int .i64 j.cl.id, .int .i64 j.cl.fl, .int .i64 j.cl.tw, .int .i64 j.bd, .int .i64 j.st]) := by rw [hw5]; exact Blk.at_ wr #[.int .i64 j.cl.tk, .int .i64 j.cl.kd, .int .i64 j.cl.id, .int .i64 j.cl.fl, .int .i64 j.cl.tw, .int .i64 j.bd, .int .i64 j.st] _ _ hjb
      have HBw : Hid (B2 ≤ w5.heap.size) := by rw [hw5]; exact Nat.le_trans HBw.out (by simp)
      have FB : Hid (Below w.heap.size w w5) := by rw [hw5]; exact FB.out.alloc FB.out.size _
      (try simp only [Act.put])
      rw [← hw5, ← hjb]
      clear hw5 hjb hlk
      by_cases hbd : 1 ≤ j.st ∧ j.st ≤ 3
      · have hB : (j.st != 0 && j.st != 4) = true := by simp; omega
        have HN : Hid ((L.take (i + 1)).flatMap (waitsAt l) = M ++ [j.bd - j.cl.tk]) := by show (L.take (i + 1)).flatMap (waitsAt l) = _; rw [HN0.out, hwt, if_pos hbd]
        go_upto_region 10 with (first | (refine load_blk 55 _ Try.underlying55 (by kernel_rfl) FJ.out rfl rfl rfl ?_) | (go_at_call 21; refine (hasB_any j _).mono ?_; rw [hB]; rintro e w6 ⟨rfl, hb⟩; have FO : Hid (OwI w6 B2 v M) := FO.out.below hb (fun k hk => (FO.out.lt k hk).2); have FR : Hid (OwI w6 w.heap.size (.slice (some ⟨g, 0, none⟩) L.length gc) L) := FR.out.below hb (fun k hk => (FR.out.lt k hk).2); have FM : Hid (MapJ w6 mb l.length D) := FM.out.below hb FM.out.lt; have F1 : Hid (Blk w6 b1 [.int .i64 0, .slice none 0 0]) := F1.out.below hb F1.out.lt; have FJ : Hid (Blk w6 jb [.int .i64 j.cl.tk, .int .i64 j.cl.kd, .int .i64 j.cl.id, .int .i64 j.cl.fl, .int .i64 j.cl.tw, .int .i64 j.bd, .int .i64 j.st]) := FJ.out.below hb FJ.out.lt; have FB : Hid (Below w.heap.size w w6) := FB.out.trans (hb.mono FB.out.size); have HBw : Hid (B2 ≤ w6.heap.size) := Nat.le_trans HBw.out hb.size; clear hb))
        have c0' := FJ.out.c 0 _ rfl
        have c5' := FJ.out.c 5 _ rfl
        have ew : wrap64 (j.bd - j.cl.tk) = j.bd - j.cl.tk := by unfold wrap64; have := (hbb hbd).1; have := (hbb hbd).2; omega
        obtain ⟨d, hd⟩ : ∃ d, wrap64 (j.bd - j.cl.tk) = d := ⟨_, rfl⟩
        have ed : j.bd - j.cl.tk = d := ew.symm.trans hd
        rw [ed] at HN
        clear ew ed
        have lz := HBw.out
        clear hbb hbd hwt hs0 hs4
        go_wp2_with (at_builtin; go_loud (refine wpList_append_own _ rfl _ _ 26 rfl B2 2 i0 (.int .i64 0) 1 8 undI64S hI.out.1 hI.out.2.1 hI.out.2.2.1 hI.out.2.2.2 rfl (by omega) _ M.length _ rfl (FO.out.alloc _) ⟨w6.heap.size, 0, none⟩ 1 1 [.int .i64 d] rfl rfl (one_new w6 d _) (one_cell d) (by unfold maxLen; omega) (by omega) (by simp; omega) ?_); intro v1 w7 ho hg hn; have FO3 : Hid (OwI w7 B2 v1 ((L.take (i + 1)).flatMap (waitsAt l))) := (by rw [HN.out]; unfold OwI; rw [List.length_append]; have e : intsV (M ++ [d]) = intsV M ++ [.int .i64 d] := (by simp [intsV]); rw [e]; exact ho); have FB3 : Hid (Below w.heap.size w w7) := (FB.out.alloc FB.out.size _).grown hg (by simp; omega) (fun k hk => Nat.le_trans lB2 (FO.out.lt k hk).1); have FR3 : Hid (OwI w7 w.heap.size (.slice (some ⟨g, 0, none⟩) L.length gc) L) := (FR.out.alloc _).kept hg (Or.inr (fun q => by have h1 := lg g rfl; have h2 := (FO.out.lt g (q.symm.trans rfl)).1; omega)); have FM3 : Hid (MapJ w7 mb l.length D) := (FM.out.alloc _).kept hg (fun q => by have h2 := (FO.out.lt mb q).1; omega); have F13 : Hid (Blk w7 b1 [.int .i64 0, .slice none 0 0]) := (F1.out.alloc _).grown hg (fun q => by have h2 := (FO.out.lt b1 q.symm).1; omega); have HB3 : Hid (B2 ≤ w7.heap.size) := (Nat.le_trans lz (Nat.le_trans (by simp) hg.size)); clear ho hg hn)
        go_roundw
        case rel => first | exact ⟨i + 1, v1, rfl, by simp, by omega, FO3.out, FR3.out, FM3.out, F13.out, HB3.out, FB3.out⟩ | exact ⟨_, _, _, ⟨i + 1, by simp, by omega, FO3.out, FR3.out, FM3.out, F13.out, HB3.out, FB3.out⟩, rfl, rfl, rfl⟩
        case measure => simp [intOf]; omega
      · have hB : (j.st != 0 && j.st != 4) = false := by
          rcases (show j.st = 0 ∨ j.st = 4 by omega) with q | q <;> simp [q]
        have HN : Hid ((L.take (i + 1)).flatMap (waitsAt l) = M) := by show (L.take (i + 1)).flatMap (waitsAt l) = _; rw [HN0.out, hwt, if_neg hbd, List.append_nil]
        go_wp2_with (first | (refine load_blk 55 _ Try.underlying55 (by kernel_rfl) FJ.out rfl rfl rfl ?_) | (go_at_call 21; refine (hasB_any j _).mono ?_; rw [hB]; rintro e w6 ⟨rfl, hb⟩; have FO : Hid (OwI w6 B2 v M) := FO.out.below hb (fun k hk => (FO.out.lt k hk).2); have FR : Hid (OwI w6 w.heap.size (.slice (some ⟨g, 0, none⟩) L.length gc) L) := FR.out.below hb (fun k hk => (FR.out.lt k hk).2); have FM : Hid (MapJ w6 mb l.length D) := FM.out.below hb FM.out.lt; have F1 : Hid (Blk w6 b1 [.int .i64 0, .slice none 0 0]) := F1.out.below hb F1.out.lt; have FJ : Hid (Blk w6 jb [.int .i64 j.cl.tk, .int .i64 j.cl.kd, .int .i64 j.cl.id, .int .i64 j.cl.fl, .int .i64 j.cl.tw, .int .i64 j.bd, .int .i64 j.st]) := FJ.out.below hb FJ.out.lt; have FB : Hid (Below w.heap.size w w6) := FB.out.trans (hb.mono FB.out.size); have HBw : Hid (B2 ≤ w6.heap.size) := Nat.le_trans HBw.out hb.size; clear hb))
        go_roundw
        case rel => first | exact ⟨i + 1, v, rfl, by simp, by omega, by rw [HN.out]; exact FO.out, FR.out, FM.out, F1.out, HBw.out, FB.out⟩ | exact ⟨_, _, _, ⟨i + 1, by simp, by omega, by rw [HN.out]; exact FO.out, FR.out, FM.out, F1.out, HBw.out, FB.out⟩, rfl, rfl, rfl⟩
        case measure => simp [intOf]; omega
    · have ei : i = L.length := by omega
      subst ei
      have FO4 : Hid (OwI wr w.heap.size v SL) := by
        have q := FO.out.base lB2
        rw [List.take_length, ← HSL.out] at q
        exact q
      have FO5 : ∀ k, v.ownBlock = some k → B2 ≤ k := fun k hk => (FO.out.lt k hk).1
      clear FO
      obtain ⟨va, vc, rfl⟩ := FO4.out.sl
      have HO : Hid (OwI (wr.setRow b1 #[.int .i64 0, .slice va SL.length vc]) w.heap.size (.slice va SL.length vc) SL) := by
        refine FO4.out.kept (row := some b1) ⟨rfl, rfl, rfl, by simp, fun k _ hne => setRow_other wr b1 k _ (fun q => hne (by rw [q]))⟩ ?_
        by_cases c : (Value.slice va SL.length vc).ownBlock = some b1
        · exact absurd (FO5 _ c) (by omega)
        · exact Or.inr c
      go_wp2_with (refine store_blk [.int .i64 0, .slice va SL.length vc] 28 _ _ (by kernel_rfl) (by kernel_rfl) (by kernel_rfl) F1.out rfl rfl rfl rfl ?_)
      exact bodyPost_ret (v := .agg #[.int .i64 0, .slice va SL.length vc]) ((F1.out.row [.int .i64 0, .slice va SL.length vc]).res _ Try.results8 Try.underlying28 (by kernel_rfl) rfl) rfl ⟨⟨_, rfl, HO.out⟩, below_row FB.out leb1 _⟩
end Go.Proofs.Ytdklllfafafmeaa
