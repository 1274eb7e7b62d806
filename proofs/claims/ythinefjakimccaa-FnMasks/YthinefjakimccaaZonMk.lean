/-
  Masks: floors are told again by their mask.
-/
import Derived.Test.YthinefjakimccaaZonR
import Derived.Test.YthinefjakimccaaZonB
import Derived.Test.YthinefjakimccaaZonG
import Derived.Test.YthinefjakimccaaZonZ
import Derived.Test.YthinefjakimccaaAt
import Derived.Deep.DeepCutAuto
namespace Go.Proofs.Ythinefjakimccaa
open Go.RowKit Pl
set_option linter.unusedSimpArgs false
set_option linter.unusedVariables false

theorem masks_ok {h : Hs} {m : Int} (k : h.flsK m = 0) : h.mskK (h.flsL m) = 0 ∧ h.mskV (h.flsL m) = m ∧ ∀ f, h.nrK m f = 0 → (0 ≤ f ∧ f ≤ 11) ∧ h.nrV m f ∈ h.flsL m ∧ ∀ x ∈ h.flsL m, (0 ≤ x ∧ x ≤ 11) ∧ (h.nrV m f - f).natAbs ≤ (x - f).natAbs := by
  have k0 := k
  unfold Hs.flsK at k
  by_cases hf : h.fault = 0
  case neg => rw [if_neg hf] at k; exact absurd k hf
  rw [if_pos hf] at k
  have fb := fl_of hf
  cases hr : h.right m with
  | false => rw [hr] at k; simp at k
  | true =>
  obtain ⟨M, rfl, h1, h2⟩ := right_nat fb.2 hr
  have eL : h.flsL (M : Int) = fls 12 M := by unfold Hs.flsL; rw [if_pos k0]; rfl
  rw [eL]
  have bd : ∀ x ∈ fls 12 M, (0 ≤ x ∧ x ≤ 11) ∧ x ≤ h.fl - 1 := by
    intro x hx
    obtain ⟨q, rfl, q1, q2⟩ := mem_fls.1 hx
    refine ⟨⟨by omega, by omega⟩, ?_⟩
    by_cases c : q < h.fl.toNat
    · omega
    · rw [bit_lt h1 (by omega)] at q2
      cases q2
  have hall : h.allF (fls 12 M) = true := by
    unfold Hs.allF
    rw [List.all_eq_true]
    intro x hx
    have b := bd x hx
    exact inB_yes b.1.1 b.2
  have hK : h.mskK (fls 12 M) = 0 := by
    unfold Hs.mskK
    have := fls_len 12 M
    rw [if_pos hf, if_neg (by omega), if_pos hall]
  refine ⟨hK, ?_, fun f hn => ?_⟩
  · unfold Hs.mskV
    rw [if_pos hK, mask_fls (n := 12) h2]
  · have hn0 := hn
    unfold Hs.nrK at hn
    rw [if_pos hf] at hn
    by_cases c : h.right (M : Int) = true ∧ inB f 0 (h.fl - 1) = true
    · rw [if_pos c] at hn
      by_cases z : (M : Int) = 0
      · rw [if_pos z] at hn; cases hn
      · have hfb := inB_iff.1 c.2
        have eV : h.nrV (M : Int) f = nearL (fls 12 M) f (-12) := by unfold Hs.nrV; rw [if_pos hn0]; rfl
        rw [eV]
        have le := nearL_le (fls 12 M) f (-12)
        refine ⟨⟨by omega, by omega⟩, ?_, fun x hx => ⟨(bd x hx).1, le.2 x hx⟩⟩
        rcases nearL_mem (fls 12 M) f (-12) with e | e
        · exfalso
          have ne : fls 12 M ≠ [] := fun q => z (by rw [(fls_nil h2).1 q]; rfl)
          obtain ⟨x, hx⟩ := List.exists_mem_of_ne_nil _ ne
          have q := le.2 x hx
          rw [e] at q
          have b := (bd x hx).1
          omega
        · exact e
    · rw [if_neg c] at hn; cases hn
def absP (x : Int) : Int := if x < 0 then -x else x
theorem absP_le {a b : Int} (h : a.natAbs ≤ b.natAbs) : decide (absP b < absP a) = false := by
  apply decide_eq_false
  unfold absP
  split <;> split <;> omega
theorem lwAbs_n (x : Int) (h1 : -5000 ≤ x) (h2 : x ≤ 5000) (w : World) : Calls Try.prog 22 #[.int .i64 x] w fun e w' => e = .returned (.int .i64 (absP x)) ∧ w' = w := by
  by_cases h : x < 0
  · have e : Hid (-x = absP x) := by show _ = absP x; unfold absP; rw [if_pos h]
    go_enter Try.func22, Try.ntmps22
    go_wp2
    go_ret
    exact ⟨ret_iG e.out, rfl⟩
  · have e : Hid (x = absP x) := by show _ = absP x; unfold absP; rw [if_neg h]
    go_enter Try.func22, Try.ntmps22
    go_wp2
    go_ret
    exact ⟨ret_iG e.out, rfl⟩
theorem fieldI0 (k : Int) (v : Value) (w : World) : (Instr.field 39 (.agg #[.int .i64 k, v]) 0).run Try.prog w = .ok (.int .i64 k) w := by kernel_rfl
theorem fieldN0 (k v : Int) (w : World) : (Instr.field 42 (.agg #[.int .i64 k, .int .i64 v]) 0).run Try.prog w = .ok (.int .i64 k) w := by kernel_rfl
structure C1x (w : World) (b o : Nat) (x : Int) : Prop where
  c : w.cell? ⟨b, o, none⟩ = some (.int .i64 x)
theorem C1x.lt {w : World} {b o : Nat} {x : Int} (a : C1x w b o x) : b < w.heap.size := World.block_lt_of_cell? w _ a.c
theorem C1x.below {W w : World} {b o B : Nat} {x : Int} (a : C1x W b o x) (hb : Below B W w) (hB : b < B) : C1x w b o x := ⟨(hb.cell (p := ⟨b, o, none⟩) hB).trans a.c⟩
theorem hasI_mem {l : List Int} {v : Int} (h : v ∈ l) : hasI l v = true := by
  obtain ⟨i, hi, e⟩ := List.mem_iff_getElem.1 h
  exact hasI_yes (List.getElem?_eq_getElem hi) e
set_option maxRecDepth 20000 in
set_option maxHeartbeats 4000000 in
theorem lwHas_any (l : List Int) (v : Int) (a : Option Addr) (cap : Nat) (hl : l.length ≤ 1048576) (w : World) (hI : IIn w a l) :
    Calls Try.prog 23 #[.slice a l.length cap, .int .i64 v] w fun e w' => e = .returned (.bool (hasI l v)) ∧ w' = w := by
  have HI : Hid (IIn w a l) := hI
  clear hI
  obtain ⟨B, hB⟩ : ∃ B, hasI l v = B := ⟨_, rfl⟩
  rw [hB]
  have HB : Hid (hasI l v = B) := hB
  clear hB
  go_enter Try.func23, Try.ntmps23
  go_wp2_with fail
  go_loopw [5] (fun ii wr => ∃ i : Nat, ii = .int .i64 (i : Int) ∧ i ≤ l.length ∧ hasI (l.take i) v = false ∧ wr = w) (fun ii _ => l.length - (intOf ii).toNat)
  case atStart => exact ⟨0, rfl, by omega, rfl, rfl⟩
  case round =>
    obtain ⟨i, rfl, hi, ha, rfl⟩ := hrel
    have HA : Hid (hasI (l.take i) v = false) := ha
    clear ha
    by_cases hlt : i < l.length
    · obtain ⟨x, hx⟩ : ∃ x, l[i]? = some x := ⟨_, List.getElem?_eq_getElem hlt⟩
      rcases HI.out with h0 | ⟨g, rfl, hg, hc⟩
      · rw [h0] at hlt; simp at hlt
      have c0 := hc i x hx
      have HX : Hid (l[i]? = some x) := hx
      clear hx hc
      by_cases e : x = v
      · have d : (x == v) = true := by simp [e]
        have HE : Hid (true = B) := by show _ = B; rw [← HB.out]; exact (hasI_yes HX.out e).symm
        clear e
        go_wp2
        go_ret
        exact ⟨congrArg (fun z => Ending.returned (.bool z)) HE.out, rfl⟩
      · have d : (x == v) = false := by simp [e]
        have HE : Hid (hasI (l.take (i + 1)) v = false) := by show _ = false; rw [hasI_take HX.out, HA.out, d]; rfl
        clear e
        go_wp2_with fail
        go_roundw
        case rel => exact ⟨i + 1, by simp, by omega, HE.out, by first | rfl | trivial⟩
        case measure => simp [intOf]; omega
    · have e : i = l.length := by omega
      subst e
      have HE : Hid (false = B) := by show _ = B; rw [← HB.out, ← HA.out, List.take_length]
      go_wp2
      go_ret
      exact ⟨congrArg (fun z => Ending.returned (.bool z)) HE.out, rfl⟩
set_option maxRecDepth 20000 in
set_option maxHeartbeats 32000000 in
theorem masks_walk (a0 : Option Addr) (len0 cap0 : Nat) (w : World) (hc : CodeIn w w.heap.size a0 len0) (hbig : len0 ≤ 1048576) :
    Calls Try.prog 5 #[.slice a0 len0 cap0] w fun e w' => e = .returned (.bool true) ∧ Below w.heap.size w w' := by
  have HC : Hid (CodeIn w w.heap.size a0 len0) := hc
  clear hc
  go_enter Try.func5, Try.ntmps5
  go_upto_region 4 with (first | (go_at_call 15; refine (lwBig_no _ _ _ hbig _).mono ?_; rintro e w' ⟨rfl, hw⟩; obtain rfl := hw.symm; clear hw) | (go_at_call 16; refine (DrawNearestIn_any a0 len0 cap0 _ HC.out).mono ?_; rintro e w1 ⟨h, mk, f, rfl, hfb, hb⟩; have FB : Hid (Below w.heap.size w w1) := hb; clear hb) | (refine store_new [.int .i64 h.fl, .int .i64 h.gp, .int .i64 h.ln, .int .i64 h.rf, .int .i64 h.sp, .int .i64 h.pu, .int .i64 h.br, .int .i64 h.dr, .int .i64 h.lv, .int .i64 h.dO, .int .i64 h.ld, .int .i64 h.qu] 28 _ _ (by kernel_rfl) (by kernel_rfl) (by kernel_rfl) rfl rfl rfl rfl ?_))
  clear HC hbig
  have FB0 := FB
  obtain ⟨b0, hbb⟩ : ∃ b0, b0 = w1.heap.size := ⟨_, rfl⟩
  obtain ⟨w2, hw2⟩ : ∃ w2, w2 = w1.alloc (.cells #[.int .i64 h.fl, .int .i64 h.gp, .int .i64 h.ln, .int .i64 h.rf, .int .i64 h.sp, .int .i64 h.pu, .int .i64 h.br, .int .i64 h.dr, .int .i64 h.lv, .int .i64 h.dO, .int .i64 h.ld, .int .i64 h.qu] 28) := ⟨_, rfl⟩
  have F0 : Hid (Blk w2 b0 [.int .i64 h.fl, .int .i64 h.gp, .int .i64 h.ln, .int .i64 h.rf, .int .i64 h.sp, .int .i64 h.pu, .int .i64 h.br, .int .i64 h.dr, .int .i64 h.lv, .int .i64 h.dO, .int .i64 h.ld, .int .i64 h.qu]) := by rw [hw2]; exact Blk.at_ w1 #[.int .i64 h.fl, .int .i64 h.gp, .int .i64 h.ln, .int .i64 h.rf, .int .i64 h.sp, .int .i64 h.pu, .int .i64 h.br, .int .i64 h.dr, .int .i64 h.lv, .int .i64 h.dO, .int .i64 h.ld, .int .i64 h.qu] _ _ hbb
  have FB : Hid (Below w.heap.size w w2) := by rw [hw2]; exact FB.out.alloc FB.out.size _
  have leb0 : w.heap.size ≤ b0 := by rw [hbb]; exact FB0.out.size
  (try simp only [Act.put])
  rw [← hw2, ← hbb]
  clear hbb hw2 FB0
  have MO := fun k => masks_ok (h := h) (m := mk) k
  obtain ⟨kz, hkz⟩ : ∃ kz, h.flsK mk = kz := ⟨_, rfl⟩
  obtain ⟨L, hL⟩ : ∃ L, h.flsL mk = L := ⟨_, rfl⟩
  have hLl : L.length ≤ 12 := by rw [← hL]; exact flsL_len h mk
  have C1 : ∀ W, Calls Try.prog 17 #[.agg #[.int .i64 h.fl, .int .i64 h.gp, .int .i64 h.ln, .int .i64 h.rf, .int .i64 h.sp, .int .i64 h.pu, .int .i64 h.br, .int .i64 h.dr, .int .i64 h.lv, .int .i64 h.dO, .int .i64 h.ld, .int .i64 h.qu], .int .i64 mk] W fun e w' => (∃ v, e = .returned (.agg #[.int .i64 kz, v]) ∧ OwI w' W.heap.size v L) ∧ Below W.heap.size W w' := fun W => by have q := implFloorsOf_any h mk W; rw [hkz, hL] at q; exact q
  have C2 : ∀ W, Calls Try.prog 18 #[.agg #[.int .i64 h.fl, .int .i64 h.gp, .int .i64 h.ln, .int .i64 h.rf, .int .i64 h.sp, .int .i64 h.pu, .int .i64 h.br, .int .i64 h.dr, .int .i64 h.lv, .int .i64 h.dO, .int .i64 h.ld, .int .i64 h.qu], .int .i64 mk] W fun e w' => (∃ v, e = .returned (.agg #[.int .i64 kz, v]) ∧ OwI w' W.heap.size v L) ∧ Below W.heap.size W w' := fun W => by have q := specFloorsOf_any h mk W; rw [hkz, hL] at q; exact q
  rw [hkz, hL] at MO
  go_upto_region 5 with (first | (refine load_blk 28 _ Try.underlying28 (by kernel_rfl) F0.out rfl rfl rfl ?_) | (go_at_call 17; refine (C1 _).mono ?_; rintro e w3 ⟨⟨vv, rfl, ho⟩, hb⟩; obtain ⟨va, vc, rfl⟩ := ho.sl; have FO : Hid (OwI w3 w.heap.size (.slice va L.length vc) L) := ho.base FB.out.size; have F0 : Hid (Blk w3 b0 [.int .i64 h.fl, .int .i64 h.gp, .int .i64 h.ln, .int .i64 h.rf, .int .i64 h.sp, .int .i64 h.pu, .int .i64 h.br, .int .i64 h.dr, .int .i64 h.lv, .int .i64 h.dO, .int .i64 h.ld, .int .i64 h.qu]) := F0.out.below hb F0.out.lt; have FB : Hid (Below w.heap.size w w3) := FB.out.trans (hb.mono FB.out.size); clear hb; clear ho) | (refine store_new [.int .i64 kz, .slice va L.length vc] 39 _ _ (by kernel_rfl) (by kernel_rfl) (by kernel_rfl) rfl rfl rfl rfl ?_))
  have FB0 := FB
  obtain ⟨b1, hbb⟩ : ∃ b1, b1 = w3.heap.size := ⟨_, rfl⟩
  obtain ⟨w4, hw2⟩ : ∃ w4, w4 = w3.alloc (.cells #[.int .i64 kz, .slice va L.length vc] 39) := ⟨_, rfl⟩
  have nb1b0 : b0 < b1 := by rw [hbb]; exact F0.out.lt
  have F0 : Hid (Blk w4 b0 [.int .i64 h.fl, .int .i64 h.gp, .int .i64 h.ln, .int .i64 h.rf, .int .i64 h.sp, .int .i64 h.pu, .int .i64 h.br, .int .i64 h.dr, .int .i64 h.lv, .int .i64 h.dO, .int .i64 h.ld, .int .i64 h.qu]) := by rw [hw2]; exact F0.out.alloc _
  have F1 : Hid (Blk w4 b1 [.int .i64 kz, .slice va L.length vc]) := by rw [hw2]; exact Blk.at_ w3 #[.int .i64 kz, .slice va L.length vc] _ _ hbb
  have FO : Hid (OwI w4 w.heap.size (.slice va L.length vc) L) := by rw [hw2]; exact FO.out.alloc _
  have FB : Hid (Below w.heap.size w w4) := by rw [hw2]; exact FB.out.alloc FB.out.size _
  have leb1 : w.heap.size ≤ b1 := by rw [hbb]; exact FB0.out.size
  (try simp only [Act.put])
  rw [← hw2, ← hbb]
  clear hbb hw2 FB0
  have z0 := F1.out.c 0 _ rfl
  by_cases hk : kz = 0
  case neg =>
    have hn : (kz != 0) = true := by simpa using hk
    have hee : (kz == kz) = true := by simp
    have fi := fieldI0
    clear hk MO hkz hL
    go_upto_region 6 with fail
    have F0 : Hid (Blk w4.drew b0 [.int .i64 h.fl, .int .i64 h.gp, .int .i64 h.ln, .int .i64 h.rf, .int .i64 h.sp, .int .i64 h.pu, .int .i64 h.br, .int .i64 h.dr, .int .i64 h.lv, .int .i64 h.dO, .int .i64 h.ld, .int .i64 h.qu]) := F0.out.below (Below.refl _ _).drew F0.out.lt
    have F1 : Hid (Blk w4.drew b1 [.int .i64 kz, .slice va L.length vc]) := F1.out.below (Below.refl _ _).drew F1.out.lt
    have FB : Hid (Below w.heap.size w w4.drew) := FB.out.drew
    refine wp_region_held_drew (S := (fun w'' => Blk w'' b0 ([.int .i64 h.fl, .int .i64 h.gp, .int .i64 h.ln, .int .i64 h.rf, .int .i64 h.sp, .int .i64 h.pu, .int .i64 h.br, .int .i64 h.dr, .int .i64 h.lv, .int .i64 h.dO, .int .i64 h.ld, .int .i64 h.qu]) ∧ Blk w'' b1 ([.int .i64 kz, .slice va L.length vc]))) (by kernel_rfl) (by (try dsimp only); first | exact ⟨F0.out, F1.out⟩ | go_keep) (fun hHeld => ?_)
    obtain ⟨v_1, hw1⟩ : ∃ v_1, v_1 = w4.drew := ⟨_, rfl⟩
    have F0 : Hid (Blk v_1 b0 [.int .i64 h.fl, .int .i64 h.gp, .int .i64 h.ln, .int .i64 h.rf, .int .i64 h.sp, .int .i64 h.pu, .int .i64 h.br, .int .i64 h.dr, .int .i64 h.lv, .int .i64 h.dO, .int .i64 h.ld, .int .i64 h.qu]) := by rw [hw1]; exact F0.out
    have F1 : Hid (Blk v_1 b1 [.int .i64 kz, .slice va L.length vc]) := by rw [hw1]; exact F1.out
    have FB : Hid (Below w.heap.size w v_1) := by rw [hw1]; exact FB.out
    rw [← hw1] at hHeld ⊢
    clear hw1
    refine tkz 0 rfl ?_ (hy := Or.inl ⟨by kernel_rfl, fun wx hSw => exec_load_blk 28 _ Try.underlying28 (by kernel_rfl) rfl rfl hSw.1⟩)
    refine tkz 1 rfl ?_
    refine tkz 4 rfl ?_
    refine tkz 5 rfl ?_ (hy := Or.inl ⟨by kernel_rfl, by (intro wx hSw; have hq1_0 := hSw.2.c 0 _ rfl; (try dsimp only at hSw); go_simp <;> with_reducible rfl)⟩)
    refine wpAnyH_ready (rs := [2]) (by kernel_rfl) (by simp) ?_
    refine (AllReadyH.cons rfl (fun K hK => ?_) AllReadyH.nil)
    go_simp
    refine (C2 _).mono ?_
    rintro e v_2 ⟨⟨vv, rfl, ho⟩, hb⟩
    have F0 : Hid (Blk v_2 b0 [.int .i64 h.fl, .int .i64 h.gp, .int .i64 h.ln, .int .i64 h.rf, .int .i64 h.sp, .int .i64 h.pu, .int .i64 h.br, .int .i64 h.dr, .int .i64 h.lv, .int .i64 h.dO, .int .i64 h.ld, .int .i64 h.qu]) := F0.out.below hb F0.out.lt
    have F1 : Hid (Blk v_2 b1 [.int .i64 kz, .slice va L.length vc]) := F1.out.below hb F1.out.lt
    have FB : Hid (Below w.heap.size w v_2) := FB.out.trans (hb.mono FB.out.size)
    clear hb
    try dsimp only
    refine hK.out _ _ (by (try dsimp only); first | exact ⟨F0.out, F1.out⟩ | go_keep) (fun hHeld => ?_)
    clear hK K
    try simp only [Act.put, List.getElem_toArray, List.getElem_cons_succ, List.getElem_cons_zero, List.setIfInBounds_toArray, List.set_cons_zero, List.set_cons_succ]
    refine tkz 3 rfl ?_
    refine tkz 6 rfl ?_
    refine tkz 7 rfl ?_
    refine wpAnyH_done (by kernel_rfl) ?_ _
    go_wp2
    go_ret
    exact ⟨by first | rfl | simp, FB.out⟩
  case pos =>
  subst hk
  obtain ⟨hm1, hm2, hm3⟩ := MO rfl
  have C3 : ∀ W, IIn W va L → Calls Try.prog 19 #[.agg #[.int .i64 h.fl, .int .i64 h.gp, .int .i64 h.ln, .int .i64 h.rf, .int .i64 h.sp, .int .i64 h.pu, .int .i64 h.br, .int .i64 h.dr, .int .i64 h.lv, .int .i64 h.dO, .int .i64 h.ld, .int .i64 h.qu], .slice va L.length vc] W fun e w' => e = .returned (.agg #[.int .i64 0, .int .i64 mk]) ∧ Below W.heap.size W w' := fun W hI => by have q := implMask_any h L va vc (by omega) W hI; rw [hm1, hm2] at q; exact q
  obtain ⟨nk, hnk⟩ : ∃ nk, h.nrK mk f = nk := ⟨_, rfl⟩
  obtain ⟨nv, hnv⟩ : ∃ nv, h.nrV mk f = nv := ⟨_, rfl⟩
  have C4 : ∀ W, Calls Try.prog 20 #[.agg #[.int .i64 h.fl, .int .i64 h.gp, .int .i64 h.ln, .int .i64 h.rf, .int .i64 h.sp, .int .i64 h.pu, .int .i64 h.br, .int .i64 h.dr, .int .i64 h.lv, .int .i64 h.dO, .int .i64 h.ld, .int .i64 h.qu], .int .i64 mk, .int .i64 f] W fun e w' => e = .returned (.agg #[.int .i64 nk, .int .i64 nv]) ∧ Below W.heap.size W w' := fun W => by have q := implNearest_any h mk f W; rw [hnk, hnv] at q; exact q
  have C5 : ∀ W, Calls Try.prog 21 #[.agg #[.int .i64 h.fl, .int .i64 h.gp, .int .i64 h.ln, .int .i64 h.rf, .int .i64 h.sp, .int .i64 h.pu, .int .i64 h.br, .int .i64 h.dr, .int .i64 h.lv, .int .i64 h.dO, .int .i64 h.ld, .int .i64 h.qu], .int .i64 mk, .int .i64 f] W fun e w' => e = .returned (.agg #[.int .i64 nk, .int .i64 nv]) ∧ Below W.heap.size W w' := fun W => by have q := specNearest_any h mk f W; rw [hnk, hnv] at q; exact q
  have hm4 : nk = 0 → (0 ≤ f ∧ f ≤ 11) ∧ nv ∈ L ∧ ∀ x ∈ L, (0 ≤ x ∧ x ≤ 11) ∧ (nv - f).natAbs ≤ (x - f).natAbs := fun z => by have q := hm3 f (hnk.trans z); rw [hnv] at q; exact q
  have HM : Hid (nk = 0 → (0 ≤ f ∧ f ≤ 11) ∧ nv ∈ L ∧ ∀ x ∈ L, (0 ≤ x ∧ x ≤ 11) ∧ (nv - f).natAbs ≤ (x - f).natAbs) := hm4
  clear hm1 hm2 hm3 hm4 hnk hnv hkz hL C1 C2 MO
  have z1 := F1.out.c 1 _ rfl
  go_upto_region 8 with (first | (refine load_blk 28 _ Try.underlying28 (by kernel_rfl) F0.out rfl rfl rfl ?_) | (go_at_call 19; refine (C3 _ FO.out.iin).mono ?_; rintro e w5 ⟨rfl, hb⟩; have FO : Hid (OwI w5 w.heap.size (.slice va L.length vc) L) := FO.out.below hb (fun k hk => (FO.out.lt k hk).2); have F0 : Hid (Blk w5 b0 [.int .i64 h.fl, .int .i64 h.gp, .int .i64 h.ln, .int .i64 h.rf, .int .i64 h.sp, .int .i64 h.pu, .int .i64 h.br, .int .i64 h.dr, .int .i64 h.lv, .int .i64 h.dO, .int .i64 h.ld, .int .i64 h.qu]) := F0.out.below hb F0.out.lt; have F1 : Hid (Blk w5 b1 [.int .i64 0, .slice va L.length vc]) := F1.out.below hb F1.out.lt; have FB : Hid (Below w.heap.size w w5) := FB.out.trans (hb.mono FB.out.size); clear hb) | (refine store_new [.int .i64 0, .int .i64 mk] 26 _ _ (by kernel_rfl) (by kernel_rfl) (by kernel_rfl) rfl rfl rfl rfl ?_))
  have FB0 := FB
  obtain ⟨b2, hbb⟩ : ∃ b2, b2 = w5.heap.size := ⟨_, rfl⟩
  obtain ⟨w6, hw2⟩ : ∃ w6, w6 = w5.alloc (.cells #[.int .i64 0, .int .i64 mk] 26) := ⟨_, rfl⟩
  have nb2b0 : b0 < b2 := by rw [hbb]; exact F0.out.lt
  have nb2b1 : b1 < b2 := by rw [hbb]; exact F1.out.lt
  have F0 : Hid (Blk w6 b0 [.int .i64 h.fl, .int .i64 h.gp, .int .i64 h.ln, .int .i64 h.rf, .int .i64 h.sp, .int .i64 h.pu, .int .i64 h.br, .int .i64 h.dr, .int .i64 h.lv, .int .i64 h.dO, .int .i64 h.ld, .int .i64 h.qu]) := by rw [hw2]; exact F0.out.alloc _
  have F1 : Hid (Blk w6 b1 [.int .i64 0, .slice va L.length vc]) := by rw [hw2]; exact F1.out.alloc _
  have F2 : Hid (Blk w6 b2 [.int .i64 0, .int .i64 mk]) := by rw [hw2]; exact Blk.at_ w5 #[.int .i64 0, .int .i64 mk] _ _ hbb
  have FO : Hid (OwI w6 w.heap.size (.slice va L.length vc) L) := by rw [hw2]; exact FO.out.alloc _
  have FB : Hid (Below w.heap.size w w6) := by rw [hw2]; exact FB.out.alloc FB.out.size _
  have leb2 : w.heap.size ≤ b2 := by rw [hbb]; exact FB0.out.size
  (try simp only [Act.put])
  rw [← hw2, ← hbb]
  clear hbb hw2 FB0
  go_upto_region 9 with (first | (refine load_blk 28 _ Try.underlying28 (by kernel_rfl) F0.out rfl rfl rfl ?_) | (go_at_call 20; refine (C4 _).mono ?_; rintro e w7 ⟨rfl, hb⟩; have FO : Hid (OwI w7 w.heap.size (.slice va L.length vc) L) := FO.out.below hb (fun k hk => (FO.out.lt k hk).2); have F0 : Hid (Blk w7 b0 [.int .i64 h.fl, .int .i64 h.gp, .int .i64 h.ln, .int .i64 h.rf, .int .i64 h.sp, .int .i64 h.pu, .int .i64 h.br, .int .i64 h.dr, .int .i64 h.lv, .int .i64 h.dO, .int .i64 h.ld, .int .i64 h.qu]) := F0.out.below hb F0.out.lt; have F1 : Hid (Blk w7 b1 [.int .i64 0, .slice va L.length vc]) := F1.out.below hb F1.out.lt; have F2 : Hid (Blk w7 b2 [.int .i64 0, .int .i64 mk]) := F2.out.below hb F2.out.lt; have FB : Hid (Below w.heap.size w w7) := FB.out.trans (hb.mono FB.out.size); clear hb) | (refine store_new [.int .i64 nk, .int .i64 nv] 42 _ _ (by kernel_rfl) (by kernel_rfl) (by kernel_rfl) rfl rfl rfl rfl ?_))
  have FB0 := FB
  obtain ⟨b3, hbb⟩ : ∃ b3, b3 = w7.heap.size := ⟨_, rfl⟩
  obtain ⟨w8, hw2⟩ : ∃ w8, w8 = w7.alloc (.cells #[.int .i64 nk, .int .i64 nv] 42) := ⟨_, rfl⟩
  have nb3b0 : b0 < b3 := by rw [hbb]; exact F0.out.lt
  have nb3b1 : b1 < b3 := by rw [hbb]; exact F1.out.lt
  have nb3b2 : b2 < b3 := by rw [hbb]; exact F2.out.lt
  have F0 : Hid (Blk w8 b0 [.int .i64 h.fl, .int .i64 h.gp, .int .i64 h.ln, .int .i64 h.rf, .int .i64 h.sp, .int .i64 h.pu, .int .i64 h.br, .int .i64 h.dr, .int .i64 h.lv, .int .i64 h.dO, .int .i64 h.ld, .int .i64 h.qu]) := by rw [hw2]; exact F0.out.alloc _
  have F1 : Hid (Blk w8 b1 [.int .i64 0, .slice va L.length vc]) := by rw [hw2]; exact F1.out.alloc _
  have F2 : Hid (Blk w8 b2 [.int .i64 0, .int .i64 mk]) := by rw [hw2]; exact F2.out.alloc _
  have F3 : Hid (Blk w8 b3 [.int .i64 nk, .int .i64 nv]) := by rw [hw2]; exact Blk.at_ w7 #[.int .i64 nk, .int .i64 nv] _ _ hbb
  have FO : Hid (OwI w8 w.heap.size (.slice va L.length vc) L) := by rw [hw2]; exact FO.out.alloc _
  have FB : Hid (Below w.heap.size w w8) := by rw [hw2]; exact FB.out.alloc FB.out.size _
  have leb3 : w.heap.size ≤ b3 := by rw [hbb]; exact FB0.out.size
  (try simp only [Act.put])
  rw [← hw2, ← hbb]
  clear hbb hw2 FB0
  have y0 := F3.out.c 0 _ rfl
  by_cases hk : nk = 0
  case neg =>
    have hn : (nk != 0) = true := by simpa using hk
    have hee : (nk == nk) = true := by simp
    have hem : (mk == mk) = true := by simp
    have fi := fieldN0
    clear hk HM z0 z1 C3 C4
    go_upto_region 10 with fail
    have F0 : Hid (Blk w8.drew b0 [.int .i64 h.fl, .int .i64 h.gp, .int .i64 h.ln, .int .i64 h.rf, .int .i64 h.sp, .int .i64 h.pu, .int .i64 h.br, .int .i64 h.dr, .int .i64 h.lv, .int .i64 h.dO, .int .i64 h.ld, .int .i64 h.qu]) := F0.out.below (Below.refl _ _).drew F0.out.lt
    have F1 : Hid (Blk w8.drew b1 [.int .i64 0, .slice va L.length vc]) := F1.out.below (Below.refl _ _).drew F1.out.lt
    have F2 : Hid (Blk w8.drew b2 [.int .i64 0, .int .i64 mk]) := F2.out.below (Below.refl _ _).drew F2.out.lt
    have F3 : Hid (Blk w8.drew b3 [.int .i64 nk, .int .i64 nv]) := F3.out.below (Below.refl _ _).drew F3.out.lt
    have FB : Hid (Below w.heap.size w w8.drew) := FB.out.drew
    refine wp_region_held_drew (S := (fun w'' => Blk w'' b0 ([.int .i64 h.fl, .int .i64 h.gp, .int .i64 h.ln, .int .i64 h.rf, .int .i64 h.sp, .int .i64 h.pu, .int .i64 h.br, .int .i64 h.dr, .int .i64 h.lv, .int .i64 h.dO, .int .i64 h.ld, .int .i64 h.qu]) ∧ Blk w'' b2 ([.int .i64 0, .int .i64 mk]) ∧ Blk w'' b3 ([.int .i64 nk, .int .i64 nv]))) (by kernel_rfl) (by (try dsimp only); first | exact ⟨F0.out, F2.out, F3.out⟩ | go_keep) (fun hHeld => ?_)
    obtain ⟨v_3, hw1⟩ : ∃ v_3, v_3 = w8.drew := ⟨_, rfl⟩
    have F0 : Hid (Blk v_3 b0 [.int .i64 h.fl, .int .i64 h.gp, .int .i64 h.ln, .int .i64 h.rf, .int .i64 h.sp, .int .i64 h.pu, .int .i64 h.br, .int .i64 h.dr, .int .i64 h.lv, .int .i64 h.dO, .int .i64 h.ld, .int .i64 h.qu]) := by rw [hw1]; exact F0.out
    have F1 : Hid (Blk v_3 b1 [.int .i64 0, .slice va L.length vc]) := by rw [hw1]; exact F1.out
    have F2 : Hid (Blk v_3 b2 [.int .i64 0, .int .i64 mk]) := by rw [hw1]; exact F2.out
    have F3 : Hid (Blk v_3 b3 [.int .i64 nk, .int .i64 nv]) := by rw [hw1]; exact F3.out
    have FB : Hid (Below w.heap.size w v_3) := by rw [hw1]; exact FB.out
    rw [← hw1] at hHeld ⊢
    clear hw1
    refine tkz 0 rfl ?_ (hy := Or.inl ⟨by kernel_rfl, fun wx hSw => exec_load_blk 28 _ Try.underlying28 (by kernel_rfl) rfl rfl hSw.1⟩)
    refine tkz 1 rfl ?_
    refine tkz 2 rfl ?_
    refine tkz 5 rfl ?_
    refine tkz 6 rfl ?_ (hy := Or.inl ⟨by kernel_rfl, by (intro wx hSw; have hq2_0 := hSw.2.2.c 0 _ rfl; (try dsimp only at hSw); go_simp <;> with_reducible rfl)⟩)
    refine wpAnyH_ready (rs := [3]) (by kernel_rfl) (by simp) ?_
    refine (AllReadyH.cons rfl (fun K hK => ?_) AllReadyH.nil)
    go_simp
    refine (C5 _).mono ?_
    rintro e v_4 ⟨rfl, hb⟩
    have F0 : Hid (Blk v_4 b0 [.int .i64 h.fl, .int .i64 h.gp, .int .i64 h.ln, .int .i64 h.rf, .int .i64 h.sp, .int .i64 h.pu, .int .i64 h.br, .int .i64 h.dr, .int .i64 h.lv, .int .i64 h.dO, .int .i64 h.ld, .int .i64 h.qu]) := F0.out.below hb F0.out.lt
    have F1 : Hid (Blk v_4 b1 [.int .i64 0, .slice va L.length vc]) := F1.out.below hb F1.out.lt
    have F2 : Hid (Blk v_4 b2 [.int .i64 0, .int .i64 mk]) := F2.out.below hb F2.out.lt
    have F3 : Hid (Blk v_4 b3 [.int .i64 nk, .int .i64 nv]) := F3.out.below hb F3.out.lt
    have FB : Hid (Below w.heap.size w v_4) := FB.out.trans (hb.mono FB.out.size)
    clear hb
    try dsimp only
    refine hK.out _ _ (by (try dsimp only); first | exact ⟨F0.out, F2.out, F3.out⟩ | go_keep) (fun hHeld => ?_)
    clear hK K
    try simp only [Act.put, List.getElem_toArray, List.getElem_cons_succ, List.getElem_cons_zero, List.setIfInBounds_toArray, List.set_cons_zero, List.set_cons_succ]
    refine tkz 4 rfl ?_
    refine tkz 7 rfl ?_
    refine tkz 8 rfl ?_
    refine tkz 9 rfl ?_
    refine tkz 10 rfl ?_ (hy := Or.inl ⟨by kernel_rfl, by (intro wx hSw; have hq1_1 := hSw.2.1.c 1 _ rfl; (try dsimp only at hSw); go_simp <;> with_reducible rfl)⟩)
    refine tkz 11 rfl ?_
    refine tkz 12 rfl ?_
    refine tkz 13 rfl ?_
    refine tkz 14 rfl ?_
    refine wpAnyH_done (by kernel_rfl) ?_ _
    go_wp2
    go_ret
    exact ⟨by first | rfl | simp, FB.out⟩
  case pos =>
  subst hk
  obtain ⟨fb1, hin, hle⟩ := HM.out rfl
  have HIN : Hid (nv ∈ L) := hin
  have HLE : Hid (∀ x ∈ L, (0 ≤ x ∧ x ≤ 11) ∧ (nv - f).natAbs ≤ (x - f).natAbs) := hle
  have nvb := (hle nv hin).1
  clear hin hle HM C3 C4 C5 z0 z1
  go_wp2_with fail
  go_loopw [9] (fun ii wr => ∃ i : Nat, ii = .int .i64 (i : Int) ∧ i ≤ L.length ∧ OwI wr w.heap.size (.slice va L.length vc) L ∧ Blk wr b0 [.int .i64 h.fl, .int .i64 h.gp, .int .i64 h.ln, .int .i64 h.rf, .int .i64 h.sp, .int .i64 h.pu, .int .i64 h.br, .int .i64 h.dr, .int .i64 h.lv, .int .i64 h.dO, .int .i64 h.ld, .int .i64 h.qu] ∧ Blk wr b1 [.int .i64 0, .slice va L.length vc] ∧ Blk wr b2 [.int .i64 0, .int .i64 mk] ∧ Blk wr b3 [.int .i64 0, .int .i64 nv] ∧ Below w.heap.size w wr) (fun ii _ => L.length - (intOf ii).toNat)
  case atStart => exact ⟨0, rfl, by omega, FO.out, F0.out, F1.out, F2.out, F3.out, FB.out⟩
  case round =>
    obtain ⟨i, rfl, hi, ho, h_F0, h_F1, h_F2, h_F3, hB⟩ := hrel
    clear F0 F1 F2 F3 FB FO y0
    have FO : Hid (OwI wr w.heap.size (.slice va L.length vc) L) := ho
    clear ho
    have F0 : Hid (Blk wr b0 [.int .i64 h.fl, .int .i64 h.gp, .int .i64 h.ln, .int .i64 h.rf, .int .i64 h.sp, .int .i64 h.pu, .int .i64 h.br, .int .i64 h.dr, .int .i64 h.lv, .int .i64 h.dO, .int .i64 h.ld, .int .i64 h.qu]) := h_F0
    have F1 : Hid (Blk wr b1 [.int .i64 0, .slice va L.length vc]) := h_F1
    have F2 : Hid (Blk wr b2 [.int .i64 0, .int .i64 mk]) := h_F2
    have F3 : Hid (Blk wr b3 [.int .i64 0, .int .i64 nv]) := h_F3
    have FB : Hid (Below w.heap.size w wr) := hB
    clear h_F0 h_F1 h_F2 h_F3 hB
    have z1 := F1.out.c 1 _ rfl
    by_cases hlt : i < L.length
    · obtain ⟨x, hx⟩ : ∃ x, L[i]? = some x := ⟨_, List.getElem?_eq_getElem hlt⟩
      have q := HLE.out x (List.mem_of_getElem? hx)
      have e1 : IntKind.i64.wrap (x - f) = x - f := IntWalk.i64_in _ (by omega)
      have e2 : IntKind.i64.wrap (nv - f) = nv - f := IntWalk.i64_in _ (by omega)
      have hd := absP_le q.2
      have xb := q.1
      rcases FO.out.cases with ⟨_, h0⟩ | ⟨g, gc, e⟩
      · rw [h0] at hlt; simp at hlt
      injection e with e3 e4 e5
      subst e3
      have cx := FO.out.cell hx
      have FC : Hid (wr.cell? ⟨g, i, none⟩ = some (.int .i64 x)) := cx
      have lg := (FO.out.lt g rfl).2
      clear q e4 e5 hx cx
      have FX : Hid (C1x wr g i x) := ⟨FC.out⟩
      clear FC
      go_upto_region 14 with fail
      have FX : Hid (C1x wr.drew g i x) := FX.out.below (Below.refl _ _).drew FX.out.lt
      have F0 : Hid (Blk wr.drew b0 [.int .i64 h.fl, .int .i64 h.gp, .int .i64 h.ln, .int .i64 h.rf, .int .i64 h.sp, .int .i64 h.pu, .int .i64 h.br, .int .i64 h.dr, .int .i64 h.lv, .int .i64 h.dO, .int .i64 h.ld, .int .i64 h.qu]) := F0.out.below (Below.refl _ _).drew F0.out.lt
      have F1 : Hid (Blk wr.drew b1 [.int .i64 0, .slice (some ⟨g, 0, none⟩) L.length vc]) := F1.out.below (Below.refl _ _).drew F1.out.lt
      have F2 : Hid (Blk wr.drew b2 [.int .i64 0, .int .i64 mk]) := F2.out.below (Below.refl _ _).drew F2.out.lt
      have F3 : Hid (Blk wr.drew b3 [.int .i64 0, .int .i64 nv]) := F3.out.below (Below.refl _ _).drew F3.out.lt
      have FB : Hid (Below w.heap.size w wr.drew) := FB.out.drew
      have FO : Hid (OwI wr.drew w.heap.size (.slice (some ⟨g, 0, none⟩) L.length vc) L) := FO.out.drew
      have cx := FX.out.c
      refine wp_region_held_drew (S := (fun w'' => Blk w'' b1 ([.int .i64 0, .slice (some ⟨g, 0, none⟩) L.length vc]) ∧ Blk w'' b3 ([.int .i64 0, .int .i64 nv]) ∧ w''.cell? ⟨g, i, none⟩ = some (.int .i64 x))) (by kernel_rfl) (by (try dsimp only); first | exact ⟨F1.out, F3.out, cx⟩ | go_keep) (fun hHeld => ?_)
      obtain ⟨v_5, hw1⟩ : ∃ v_5, v_5 = wr.drew := ⟨_, rfl⟩
      have FX : Hid (C1x v_5 g i x) := by rw [hw1]; exact FX.out
      have F0 : Hid (Blk v_5 b0 [.int .i64 h.fl, .int .i64 h.gp, .int .i64 h.ln, .int .i64 h.rf, .int .i64 h.sp, .int .i64 h.pu, .int .i64 h.br, .int .i64 h.dr, .int .i64 h.lv, .int .i64 h.dO, .int .i64 h.ld, .int .i64 h.qu]) := by rw [hw1]; exact F0.out
      have F1 : Hid (Blk v_5 b1 [.int .i64 0, .slice (some ⟨g, 0, none⟩) L.length vc]) := by rw [hw1]; exact F1.out
      have F2 : Hid (Blk v_5 b2 [.int .i64 0, .int .i64 mk]) := by rw [hw1]; exact F2.out
      have F3 : Hid (Blk v_5 b3 [.int .i64 0, .int .i64 nv]) := by rw [hw1]; exact F3.out
      have FB : Hid (Below w.heap.size w v_5) := by rw [hw1]; exact FB.out
      have FO : Hid (OwI v_5 w.heap.size (.slice (some ⟨g, 0, none⟩) L.length vc) L) := by rw [hw1]; exact FO.out
      rw [← hw1] at hHeld ⊢
      clear hw1
      have cx := FX.out.c
      refine tkz 0 rfl ?_
      refine tkz 1 rfl ?_ (hy := Or.inl ⟨by kernel_rfl, by (intro wx hSw; have hq0_1 := hSw.1.c 1 _ rfl; (try dsimp only at hSw); go_simp <;> with_reducible rfl)⟩)
      refine tkz 2 rfl ?_
      refine tkz 3 rfl ?_
      refine tkz 4 rfl ?_
      refine tkz 5 rfl ?_
      refine tkz 6 rfl ?_
      refine tkz 8 rfl ?_
      refine tkz 9 rfl ?_ (hy := Or.inl ⟨by kernel_rfl, by (intro wx hSw; have hq1_1 := hSw.2.1.c 1 _ rfl; (try dsimp only at hSw); go_simp <;> with_reducible rfl)⟩)
      refine tkz 10 rfl ?_
      refine tkz 11 rfl ?_
      refine wpAnyH_ready (rs := [7]) (by kernel_rfl) (by simp) ?_
      refine (AllReadyH.cons rfl (fun K hK => ?_) AllReadyH.nil)
      go_simp
      refine (lwAbs_n (x - f) (by omega) (by omega) _).mono ?_
      rintro e w_ ⟨rfl, hw⟩
      obtain rfl := hw.symm
      clear hw
      try dsimp only
      refine hK.out _ _ (by (try dsimp only); first | exact ⟨F1.out, F3.out, cx⟩ | go_keep) (fun hHeld => ?_)
      clear hK K
      try simp only [Act.put, List.getElem_toArray, List.getElem_cons_succ, List.getElem_cons_zero, List.setIfInBounds_toArray, List.set_cons_zero, List.set_cons_succ]
      refine wpAnyH_ready (rs := [12]) (by kernel_rfl) (by simp) ?_
      refine (AllReadyH.cons rfl (fun K hK => ?_) AllReadyH.nil)
      go_simp
      refine (lwAbs_n (nv - f) (by omega) (by omega) _).mono ?_
      rintro e w_ ⟨rfl, hw⟩
      obtain rfl := hw.symm
      clear hw
      try dsimp only
      refine hK.out _ _ (by (try dsimp only); first | exact ⟨F1.out, F3.out, cx⟩ | go_keep) (fun hHeld => ?_)
      clear hK K
      try simp only [Act.put, List.getElem_toArray, List.getElem_cons_succ, List.getElem_cons_zero, List.setIfInBounds_toArray, List.set_cons_zero, List.set_cons_succ]
      refine tkz 13 rfl ?_
      refine wpAnyH_done (by kernel_rfl) ?_ _
      go_wp2_with fail
      go_roundw
      case rel => exact ⟨i + 1, by simp, by omega, FO.out, F0.out, F1.out, F2.out, F3.out, FB.out⟩
      case measure => simp [intOf]; omega
    · have ei : i = L.length := by omega
      have hem : (mk == mk) = true := by simp
      have x0 := F2.out.c 0 _ rfl
      have x1 := F2.out.c 1 _ rfl
      have x2 := F3.out.c 1 _ rfl
      have hh : hasI L nv = true := hasI_mem HIN.out
      go_wp2_with (go_at_call 23; refine (lwHas_any L nv va vc (by omega) _ FO.out.iin).mono ?_; rw [hh]; rintro e w' ⟨rfl, hw⟩; obtain rfl := hw.symm; clear hw)
      go_ret
      exact ⟨by first | rfl | simp, FB.out⟩
end Go.Proofs.Ythinefjakimccaa
