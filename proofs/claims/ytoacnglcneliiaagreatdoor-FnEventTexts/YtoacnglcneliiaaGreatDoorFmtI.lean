/-
  The text of events: the program.
-/
import Derived.Test.YtoacnglcneliiaaGreatDoorFmtT
import Derived.Test.YtoacnglcneliiaaGreatDoorEvV
import Derived.Test.YtoacnglcneliiaaGreatDoorShf
import Derived.Lib.AppendIntMem
import Derived.Laws.Concat
import Derived.BigGuardPart
namespace Go.Proofs.YtoacnglcneliiaaGreatDoor
open Go.RowKit Pl
set_option linter.unusedSimpArgs false
set_option linter.unusedVariables false

/-- The library's table of powers of ten reads as it is laid. -/
def Tb (w : World) : Prop := Lib.TabBelow Tryz.prog w.heap.size w "internal/strconv.uint64pow10" .u64 Lib.pow10Tab
theorem Tb.below {W w : World} {B : Nat} (h : Tb W) (hb : Below B W w) (hB : W.heap.size ≤ B) : Tb w := fun w' h' => h w' ((hb.mono hB).trans (h'.mono hb.size))
theorem fmtInt_any (n : Int) (hn : i64N n) (w : World) (hT : Tb w) : Calls Tryz.prog 12 #[.int .i64 n, .int .i64 10] w fun e w' => e = .returned (.string (itB n)) ∧ Below w.heap.size w w' := by
  refine Calls.mono (Any.strconv_FormatInt_10 Shf.fmt n hn.1 hn.2 w (Lib.TabBelow.here hT)) ?_
  rintro e w' ⟨he, k, os, rfl⟩
  exact ⟨he, Lib.below_grow _ w (Nat.le_refl _) k os⟩
theorem undI64S2 : Tryz.prog.underlying 36 = some (.slice 2) := by kernel_rfl
theorem infoI64 : (Tryz.prog.info? 2).map (fun i => (i.zero, i.size, i.bytes)) = some (some (.int .i64 0), 1, 8) := by kernel_rfl
theorem cut_to3 (k n cap : Nat) (hk : k ≤ cap) : ∀ (g : Nat) w, (Instr.slice 36 (.slice (some ⟨g, 0, none⟩) n cap) none (some (.int .i64 (k : Int))) none).run Tryz.prog w = .ok (.slice (some ⟨g, 0, none⟩) k cap) w := by
  intro g w
  obtain ⟨i, hi, h0, hs, hb⟩ := info_parts infoI64
  have he : Tryz.prog.elem 36 = 2 := by kernel_rfl
  have hu : Tryz.prog.underlying 36 = some (.slice (Tryz.prog.elem 36)) := by rw [he]; exact undI64S2
  have hsz : (sizeOf (Tryz.prog.elem 36)).run Tryz.prog w = .ok 1 w := by
    rw [he]
    simp [sizeOf, typeInfo, hi, hs]
  rw [run_slice_h _ _ _ _ _ hu .i64 (k : Int) (by omega) (by omega), hsz, Int.toNat_natCast]
  simp [Result.andThen, sliced, Addr.add]
set_option maxRecDepth 20000 in
set_option maxHeartbeats 16000000 in
theorem eventWord_any (k : Int) (h1 : 1 ≤ k) (h5 : k ≤ 5) (w : World) : Calls Tryz.prog 14 #[.int .i64 k] w fun e w' => e = .returned (.string (evW k)) ∧ w' = w := by
  rcases (show k = 1 ∨ k = 2 ∨ k = 3 ∨ k = 4 ∨ k = 5 by omega) with rfl | rfl | rfl | rfl | rfl
  all_goals
    go_enter Tryz.func14, Tryz.ntmps14
    go_wp2_with fail
    go_ret
    exact ⟨rfl, rfl⟩
set_option maxRecDepth 20000 in
set_option maxHeartbeats 16000000 in
theorem numbersOf_any (k : Int) (w : World) : Calls Tryz.prog 11 #[.int .i64 k] w fun e w' => e = .returned (.int .i64 ((evN k : Nat) : Int)) ∧ w' = w := by
  unfold evN
  by_cases c1 : k = 1
  · subst c1
    go_enter Tryz.func11, Tryz.ntmps11
    go_wp2_with fail
    go_ret
    exact ⟨rfl, rfl⟩
  by_cases c5 : k = 5
  · subst c5
    go_enter Tryz.func11, Tryz.ntmps11
    go_wp2_with fail
    go_ret
    exact ⟨rfl, rfl⟩
  rw [if_neg c1, if_neg c5]
  have b1 : (k == 1) = false := by simpa using c1
  have b5 : (k == 5) = false := by simpa using c5
  go_enter Tryz.func11, Tryz.ntmps11
  go_wp2_with fail
  go_ret
  exact ⟨rfl, rfl⟩
set_option maxRecDepth 20000 in
set_option maxHeartbeats 16000000 in
theorem phrase_any (s : ByteArray) (l : List Int) (g cap : Nat) (hl : l.length ≤ 200) (hs : s.size ≤ 100000) (hi : ∀ n ∈ l, i64N n) (w : World) (hN : NIn w g l) (hT : Tb w) :
    Calls Tryz.prog 28 #[.string s, .slice (some ⟨g, 0, none⟩) l.length cap] w fun e w' => e = .returned (.string (phr s l)) ∧ Below w.heap.size w w' := by
  have HN : Hid (NIn w g l) := hN
  have HT : Hid (Tb w) := hT
  clear hN hT
  go_enter Tryz.func28, Tryz.ntmps28
  go_wp2_with fail
  go_loopw [0, 9] (fun ss ii wr => ∃ (i : Nat) (u : ByteArray), ii = .int .i64 (i : Int) ∧ ss = .string u ∧ u = phr s (l.take i) ∧ i ≤ l.length ∧ Below w.heap.size w wr) (fun _ ii _ => l.length - (intOf ii).toNat)
  case atStart => exact ⟨0, s, rfl, rfl, rfl, by omega, Below.refl _ _⟩
  case round =>
    obtain ⟨i, u, rfl, rfl, hu, hin, hB⟩ := hrel
    have FB : Hid (Below w.heap.size w wr) := hB
    have us := phr_take hi s i
    rw [← hu] at us
    have HU : Hid (u = phr s (l.take i)) := hu
    clear hu hB
    by_cases hlt : i < l.length
    · obtain ⟨n, hn⟩ : ∃ n, l[i]? = some n := ⟨_, List.getElem?_eq_getElem hlt⟩
      have nb := hi n (List.mem_of_getElem? hn)
      have ns := itB_size nb
      have NW : NIn wr g l := HN.out.below FB.out HN.out.1
      have c0 := NW.2 i n hn
      have HU2 : Hid (phr s (l.take (i + 1)) = u ++ ((⟨#[32]⟩ : ByteArray) ++ itB n)) := by rw [phr_snoc hn, HU.out]; exact rfl
      obtain ⟨bn, hbn⟩ : ∃ bn, itB n = bn := ⟨_, rfl⟩
      rw [hbn] at ns HU2
      have HBN : Hid (itB n = bn) := hbn
      have s1 : ¬ (9223372036854775807 < 1 + bn.size) := by omega
      have s3 : ¬ (9223372036854775807 < u.size + (1 + bn.size)) := by omega
      clear hn hbn HN HU us ns NW
      go_wp2_with (go_at_call 12; refine (fmtInt_any n nb _ (HT.out.below FB.out (Nat.le_refl _))).mono ?_; rw [HBN.out]; rintro e w1 ⟨rfl, hb⟩; have FB : Hid (Below w.heap.size w w1) := FB.out.trans (hb.mono FB.out.size); clear hb)
      go_roundw
      case rel => exact ⟨i + 1, _, by simp, rfl, by rw [HU2.out], by omega, FB.out⟩
      case measure => simp [intOf]; omega
    · have ei : i = l.length := by omega
      have hge : (l.length : Int) ≤ (i : Int) := by omega
      have HU3 : Hid (u = phr s l) := by have := HU.out; rw [ei, List.take_length] at this; exact this
      clear ei HU
      go_wp2_with fail
      go_ret
      exact ⟨ret_str HU3.out, FB.out⟩
set_option maxRecDepth 20000 in
set_option maxHeartbeats 16000000 in
theorem lineOf_any (s : ByteArray) (l : List Int) (g cap : Nat) (hl : l.length ≤ 200) (hs : s.size ≤ 100000) (hi : ∀ n ∈ l, i64N n) (w : World) (hN : NIn w g l) (hT : Tb w) :
    Calls Tryz.prog 13 #[.string s, .slice (some ⟨g, 0, none⟩) l.length cap] w fun e w' => e = .returned (.string (phr s l ++ ⟨#[10]⟩)) ∧ Below w.heap.size w w' := by
  have ps := phr_size l hi s
  have s1 : ¬ (9223372036854775807 < (phr s l).size + 1) := by omega
  have HN : Hid (NIn w g l) := hN
  clear hN
  go_enter Tryz.func13, Tryz.ntmps13
  go_wp2_with (go_at_call 28; refine (phrase_any s l g cap hl hs hi _ HN.out hT).mono ?_; rintro e w1 ⟨rfl, hb⟩)
  go_ret
  exact ⟨rfl, hb⟩
theorem NIn.lt {w : World} {g : Nat} {l : List Int} (h : NIn w g l) : g < w.heap.size := h.1
theorem NIn.alloc {w : World} {g : Nat} {l : List Int} (h : NIn w g l) (o : Obj) : NIn (w.alloc o) g l := h.below ((Below.refl _ _).alloc (Nat.le_refl _) o) h.1
theorem nin_blk {w : World} {g : Nat} {a b c : Int} (h : Blk w g [.int .i64 a, .int .i64 b, .int .i64 c]) : NIn w g [a, b, c] := by
  refine ⟨h.lt, fun i x hx => h.c i _ ?_⟩
  have e : ([.int .i64 a, .int .i64 b, .int .i64 c] : List Value) = [a, b, c].map (Value.int .i64) := rfl
  rw [e, List.getElem?_map, hx]
  rfl
set_option maxRecDepth 20000 in
set_option maxHeartbeats 16000000 in
theorem implFormat_any (h : Hs) (l : List Ev) (a : Option Addr) (cap : Nat) (hl : l.length ≤ 1048576) (w : World) (hE : EIn w w.heap.size a l) (hT : Tb w) :
    Calls Tryz.prog 6 #[.agg #[.int .i64 h.fl, .int .i64 h.gp, .int .i64 h.ln, .int .i64 h.rf, .int .i64 h.sp, .int .i64 h.pu, .int .i64 h.br, .int .i64 h.dr, .int .i64 h.lv, .int .i64 h.dO, .int .i64 h.ld, .int .i64 h.qu], .slice a l.length cap] w fun r w' => r = .returned (.string (Hs.fmE h l)) ∧ Below w.heap.size w w' := by
  have HE : Hid (EIn w w.heap.size a l) := hE
  have HT : Hid (Tb w) := hT
  clear hE hT
  obtain ⟨W0, hW0⟩ : ∃ W0, W0 = w.alloc (.cells #[.int .i64 h.fl, .int .i64 h.gp, .int .i64 h.ln, .int .i64 h.rf, .int .i64 h.sp, .int .i64 h.pu, .int .i64 h.br, .int .i64 h.dr, .int .i64 h.lv, .int .i64 h.dO, .int .i64 h.ld, .int .i64 h.qu] 25) := ⟨_, rfl⟩
  have F0 : Hid (Blk W0 w.heap.size [.int .i64 h.fl, .int .i64 h.gp, .int .i64 h.ln, .int .i64 h.rf, .int .i64 h.sp, .int .i64 h.pu, .int .i64 h.br, .int .i64 h.dr, .int .i64 h.lv, .int .i64 h.dO, .int .i64 h.ld, .int .i64 h.qu]) := by rw [hW0]; exact Blk.at_ w #[.int .i64 h.fl, .int .i64 h.gp, .int .i64 h.ln, .int .i64 h.rf, .int .i64 h.sp, .int .i64 h.pu, .int .i64 h.br, .int .i64 h.dr, .int .i64 h.lv, .int .i64 h.dO, .int .i64 h.ld, .int .i64 h.qu] _ _ rfl
  have FB : Hid (Below w.heap.size w W0) := by rw [hW0]; exact (Below.refl _ _).alloc (Nat.le_refl _) _
  have HW0 : Hid (W0 = w.alloc (.cells #[.int .i64 h.fl, .int .i64 h.gp, .int .i64 h.ln, .int .i64 h.rf, .int .i64 h.sp, .int .i64 h.pu, .int .i64 h.br, .int .i64 h.dr, .int .i64 h.lv, .int .i64 h.dO, .int .i64 h.ld, .int .i64 h.qu] 25)) := hW0
  clear hW0
  unfold Hs.fmE
  by_cases hk : Hs.tr h l = 0
  case neg =>
    rw [if_neg hk]
    have hn : (Hs.tr h l != 0) = true := by simpa using hk
    clear hk
    go_enter Tryz.func6, Tryz.ntmps6
    go_upto_region 1 with fail
    rw [← HW0.out]
    go_wp2_with (first | (refine load_blk 25 _ Tryz.underlying25 (by kernel_rfl) F0.out rfl rfl rfl ?_) | (go_at_call 10; refine (implTrace_any h l a cap hl _ ((HE.out.below FB.out (Nat.le_refl _)).mono FB.out.size)).mono ?_; rintro r w1 ⟨rfl, hb⟩; have FB : Hid (Below w.heap.size w w1) := FB.out.trans (hb.mono FB.out.size); clear hb))
    go_ret
    exact ⟨rfl, FB.out⟩
  rw [if_pos hk]
  obtain ⟨h200, hall⟩ := tr_all hk
  have HA : Hid (∀ e ∈ l, EvI e ∧ 1 ≤ e.kd ∧ e.kd ≤ 5) := hall
  have HI : Hid (∀ e ∈ l, EvI e) := fun e he => (hall e he).1
  clear hall
  go_enter Tryz.func6, Tryz.ntmps6
  go_upto_region 1 with fail
  rw [← HW0.out]
  go_wp2_with (first | (refine load_blk 25 _ Tryz.underlying25 (by kernel_rfl) F0.out rfl rfl rfl ?_) | (go_at_call 10; refine (implTrace_any h l a cap hl _ ((HE.out.below FB.out (Nat.le_refl _)).mono FB.out.size)).mono ?_; rw [hk]; rintro r w1 ⟨rfl, hb⟩; have FB : Hid (Below w.heap.size w w1) := FB.out.trans (hb.mono FB.out.size); clear hb))
  clear F0 HW0 hk
  go_loopw [5, 15] (fun ss ii wr => ∃ (i : Nat) (u : ByteArray), ii = .int .i64 (i : Int) ∧ ss = .string u ∧ u = evTx (l.take i) ∧ i ≤ l.length ∧ Below w.heap.size w wr) (fun _ ii _ => l.length - (intOf ii).toNat)
  case atStart => exact ⟨0, _, rfl, rfl, rfl, by omega, FB.out⟩
  case round =>
    obtain ⟨i, u, rfl, rfl, hu, hin, hB⟩ := hrel
    clear FB
    have FB : Hid (Below w.heap.size w wr) := hB
    have us := evTx_take HI.out h200 i
    rw [← hu] at us
    have HU : Hid (u = evTx (l.take i)) := hu
    clear hu hB
    by_cases hlt : i < l.length
    · obtain ⟨e, he⟩ : ∃ e, l[i]? = some e := ⟨_, List.getElem?_eq_getElem hlt⟩
      obtain ⟨eI, e1, e5⟩ := HA.out e (List.mem_of_getElem? he)
      have ls := evLn_size eI
      have ts := itB_size eI.tk
      have pz := evP_size eI
      have nz := evN_le e.kd
      rcases HE.out with h0 | ⟨b, o, rfl, hbl, h5⟩
      · rw [h0] at hlt; simp at hlt
      obtain ⟨c0, c1, c2, c3, c4⟩ := (h5 i e he).below FB.out hbl
      have HU2 : Hid (evTx (l.take (i + 1)) = u ++ evLn e) := by rw [evTx_snoc he, HU.out]; exact rfl
      have hct := cut_to3 (evN e.kd) 3 3 nz.2
      have hnl : ([e.id, e.fl, e.tw].take (evN e.kd)).length = evN e.kd := by rw [List.length_take]; simp only [List.length_cons, List.length_nil]; omega
      obtain ⟨kn, hkn⟩ : ∃ kn, evN e.kd = kn := ⟨_, rfl⟩
      have HKN : Hid (evN e.kd = kn) := hkn
      obtain ⟨nt, hnt⟩ : ∃ nt, [e.id, e.fl, e.tw].take (evN e.kd) = nt := ⟨_, rfl⟩
      have HNT : Hid ([e.id, e.fl, e.tw].take (evN e.kd) = nt) := hnt
      have k0 : (0 : Int) ≤ (kn : Int) := by omega
      have k3 : (kn : Int) ≤ 3 := by omega
      have HLN : ∀ (gq : Nat) (W : World), NIn W gq nt → Tb W → Calls Tryz.prog 13 #[.string (evW e.kd), .slice (some ⟨gq, 0, none⟩) kn 3] W fun r w' => r = .returned (.string (phr (evW e.kd) nt ++ ⟨#[10]⟩)) ∧ Below W.heap.size W w' := by
        intro gq W h1 h2
        subst hnt hkn
        have q := lineOf_any (evW e.kd) _ gq 3 (by rw [hnl]; omega) (by have := evW_size e.kd; omega) (fun n hn => eI.all n (List.mem_of_mem_take hn)) W h1 h2
        rw [hnl] at q
        exact q
      have HNO : ∀ (W : World), Calls Tryz.prog 11 #[.int .i64 e.kd] W fun r w' => r = .returned (.int .i64 (kn : Int)) ∧ w' = W := by
        intro W
        rw [← hkn]
        exact numbersOf_any e.kd W
      rw [hkn] at hct
      rw [hnt] at pz
      have ez : (evLn e).size = (itB e.tk).size + 1 + ((phr (evW e.kd) nt).size + 1) := by
        rw [← hnt]; unfold evLn; rw [ByteArray.size_append, ByteArray.size_append, ByteArray.size_append]; rfl
      have s1 : ¬ (9223372036854775807 < (itB e.tk).size + 1) := by omega
      have s2 : ¬ (9223372036854775807 < (itB e.tk).size + 1 + ((phr (evW e.kd) nt).size + 1)) := by omega
      have s3 : ¬ (9223372036854775807 < u.size + ((itB e.tk).size + 1 + ((phr (evW e.kd) nt).size + 1))) := by omega
      have HU2 : Hid (evTx (l.take (i + 1)) = u ++ ((itB e.tk ++ ⟨#[32]⟩) ++ (phr (evW e.kd) nt ++ ⟨#[10]⟩))) := by rw [HU2.out, ← hnt]; exact rfl
      clear he h5 HU us HE HA HI hnt hkn hnl ez ls ts pz nz
      go_upto_region 7 with (refine store_new [.int .i64 e.tk, .int .i64 e.kd, .int .i64 e.id, .int .i64 e.fl, .int .i64 e.tw] 34 _ _ (by kernel_rfl) (by kernel_rfl) (by kernel_rfl) rfl rfl rfl rfl ?_)
      have FB0 := FB
      obtain ⟨b7, hbb⟩ : ∃ b7, b7 = wr.heap.size := ⟨_, rfl⟩
      obtain ⟨wp, hw2⟩ : ∃ wp, wp = wr.alloc (.cells #[.int .i64 e.tk, .int .i64 e.kd, .int .i64 e.id, .int .i64 e.fl, .int .i64 e.tw] 34) := ⟨_, rfl⟩
      have F7 : Hid (Blk wp b7 [.int .i64 e.tk, .int .i64 e.kd, .int .i64 e.id, .int .i64 e.fl, .int .i64 e.tw]) := by rw [hw2]; exact Blk.at_ wr #[.int .i64 e.tk, .int .i64 e.kd, .int .i64 e.id, .int .i64 e.fl, .int .i64 e.tw] _ _ hbb
      have FB : Hid (Below w.heap.size w wp) := by rw [hw2]; exact FB.out.alloc FB.out.size _
      have leb7 : w.heap.size ≤ b7 := by rw [hbb]; exact FB0.out.size
      (try simp only [Act.put])
      rw [← hw2, ← hbb]
      clear hbb hw2 FB0
      clear c0 c1 c2 c3 c4
      go_cut [8] from 19 to 30 (fun p wx => ∃ g : Nat, p = .slice (some ⟨g, 0, none⟩) kn 3 ∧ NIn wx g nt ∧ Blk wx b7 [.int .i64 e.tk, .int .i64 e.kd, .int .i64 e.id, .int .i64 e.fl, .int .i64 e.tw] ∧ Below w.heap.size w wx)
      case first =>
        have F7 : Hid (Blk wp.drew b7 [.int .i64 e.tk, .int .i64 e.kd, .int .i64 e.id, .int .i64 e.fl, .int .i64 e.tw]) := F7.out.below (Below.refl _ _).drew F7.out.lt
        have FB : Hid (Below w.heap.size w wp.drew) := FB.out.drew
        refine wp_region_held_drew (S := (fun w'' => Blk w'' b7 ([.int .i64 e.tk, .int .i64 e.kd, .int .i64 e.id, .int .i64 e.fl, .int .i64 e.tw]))) (by kernel_rfl) (by (try dsimp only); first | exact F7.out | go_keep) (fun hHeld => ?_)
        obtain ⟨v_1, hw1⟩ : ∃ v_1, v_1 = wp.drew := ⟨_, rfl⟩
        have F7 : Hid (Blk v_1 b7 [.int .i64 e.tk, .int .i64 e.kd, .int .i64 e.id, .int .i64 e.fl, .int .i64 e.tw]) := by rw [hw1]; exact F7.out
        have FB : Hid (Below w.heap.size w v_1) := by rw [hw1]; exact FB.out
        rw [← hw1] at hHeld ⊢
        clear hw1
        refine tkz 0 rfl ?_
        refine tkz 1 rfl ?_ (hy := Or.inl ⟨by kernel_rfl, by (intro wx hSw; have hq0_2 := hSw.c 2 _ rfl; (try dsimp only at hSw); go_simp <;> with_reducible rfl)⟩)
        refine tkz 2 rfl ?_
        refine tkz 3 rfl ?_ (hy := Or.inl ⟨by kernel_rfl, by (intro wx hSw; have hq0_3 := hSw.c 3 _ rfl; (try dsimp only at hSw); go_simp <;> with_reducible rfl)⟩)
        refine tkz 4 rfl ?_
        refine tkz 5 rfl ?_ (hy := Or.inl ⟨by kernel_rfl, by (intro wx hSw; have hq0_4 := hSw.c 4 _ rfl; (try dsimp only at hSw); go_simp <;> with_reducible rfl)⟩)
        refine tkz 7 rfl ?_
        refine tkz 8 rfl ?_ (hy := Or.inl ⟨by kernel_rfl, by (intro wx hSw; have hq0_1 := hSw.c 1 _ rfl; (try dsimp only at hSw); go_simp <;> with_reducible rfl)⟩)
        refine wpAnyH_ready (rs := [6, 9]) (by kernel_rfl) (by simp) ?_
        refine (AllReadyH.cons rfl (fun K hK => ?_) (AllReadyH.cons rfl (fun K hK => ?_) AllReadyH.nil))
        · go_simp
          obtain ⟨lb6, hbb⟩ : ∃ lb6, lb6 = v_1.heap.size := ⟨_, rfl⟩
          obtain ⟨v_2, hw2⟩ : ∃ v_2, v_2 = v_1.alloc (.cells #[.int .i64 e.id, .int .i64 e.fl, .int .i64 e.tw] 2) := ⟨_, rfl⟩
          have nlb6_0 := F7.out.lt
          rw [← hbb] at nlb6_0
          have FL6 : Hid (Blk v_2 lb6 [.int .i64 e.id, .int .i64 e.fl, .int .i64 e.tw]) := by rw [hw2]; exact Blk.at_ v_1 #[.int .i64 e.id, .int .i64 e.fl, .int .i64 e.tw] _ lb6 hbb
          have F7 : Hid (Blk v_2 b7 [.int .i64 e.tk, .int .i64 e.kd, .int .i64 e.id, .int .i64 e.fl, .int .i64 e.tw]) := by rw [hw2]; exact F7.out.alloc _
          have FB : Hid (Below w.heap.size w v_2) := by rw [hw2]; exact FB.out.alloc FB.out.size _
          rw [← hw2, ← hbb]
          clear hbb hw2
          refine hK.out _ _ (by (try dsimp only); first | exact F7.out | go_keep) (fun hHeld => ?_)
          clear hK K
          try simp only [Act.put, List.getElem_toArray, List.getElem_cons_succ, List.getElem_cons_zero, List.setIfInBounds_toArray, List.set_cons_zero, List.set_cons_succ]
          refine wpAnyH_ready (rs := [9]) (by kernel_rfl) (by simp) ?_
          refine (AllReadyH.cons rfl (fun K hK => ?_) AllReadyH.nil)
          go_simp
          refine (HNO _).mono ?_
          rintro e w_ ⟨rfl, hw⟩
          obtain rfl := hw.symm
          clear hw
          try dsimp only
          refine hK.out _ _ (by (try dsimp only); first | exact F7.out | go_keep) (fun hHeld => ?_)
          clear hK K
          try simp only [Act.put, List.getElem_toArray, List.getElem_cons_succ, List.getElem_cons_zero, List.setIfInBounds_toArray, List.set_cons_zero, List.set_cons_succ]
          refine tkz 10 rfl ?_
          refine tkz 11 rfl ?_
          refine wpAnyH_done (by kernel_rfl) ?_ _
          go_wp2_with fail
          go_meet
          case rel => exact ⟨lb6, rfl, by rw [← HNT.out]; exact (nin_blk FL6.out).take _, F7.out, FB.out⟩
        · go_simp
          refine (HNO _).mono ?_
          rintro e w_ ⟨rfl, hw⟩
          obtain rfl := hw.symm
          clear hw
          try dsimp only
          refine hK.out _ _ (by (try dsimp only); first | exact F7.out | go_keep) (fun hHeld => ?_)
          clear hK K
          try simp only [Act.put, List.getElem_toArray, List.getElem_cons_succ, List.getElem_cons_zero, List.setIfInBounds_toArray, List.set_cons_zero, List.set_cons_succ]
          refine wpAnyH_ready (rs := [6]) (by kernel_rfl) (by simp) ?_
          refine (AllReadyH.cons rfl (fun K hK => ?_) AllReadyH.nil)
          go_simp
          obtain ⟨lb6, hbb⟩ : ∃ lb6, lb6 = v_1.heap.size := ⟨_, rfl⟩
          obtain ⟨v_3, hw2⟩ : ∃ v_3, v_3 = v_1.alloc (.cells #[.int .i64 e.id, .int .i64 e.fl, .int .i64 e.tw] 2) := ⟨_, rfl⟩
          have nlb6_0 := F7.out.lt
          rw [← hbb] at nlb6_0
          have FL6 : Hid (Blk v_3 lb6 [.int .i64 e.id, .int .i64 e.fl, .int .i64 e.tw]) := by rw [hw2]; exact Blk.at_ v_1 #[.int .i64 e.id, .int .i64 e.fl, .int .i64 e.tw] _ lb6 hbb
          have F7 : Hid (Blk v_3 b7 [.int .i64 e.tk, .int .i64 e.kd, .int .i64 e.id, .int .i64 e.fl, .int .i64 e.tw]) := by rw [hw2]; exact F7.out.alloc _
          have FB : Hid (Below w.heap.size w v_3) := by rw [hw2]; exact FB.out.alloc FB.out.size _
          rw [← hw2, ← hbb]
          clear hbb hw2
          refine hK.out _ _ (by (try dsimp only); first | exact F7.out | go_keep) (fun hHeld => ?_)
          clear hK K
          try simp only [Act.put, List.getElem_toArray, List.getElem_cons_succ, List.getElem_cons_zero, List.setIfInBounds_toArray, List.set_cons_zero, List.set_cons_succ]
          refine tkz 10 rfl ?_
          refine tkz 11 rfl ?_
          refine wpAnyH_done (by kernel_rfl) ?_ _
          go_wp2_with fail
          go_meet
          case rel => exact ⟨lb6, rfl, by rw [← HNT.out]; exact (nin_blk FL6.out).take _, F7.out, FB.out⟩
      case rest =>
      obtain ⟨gq, rfl, hN, h7, hB⟩ := hcut
      clear F7 FB
      have F7 : Hid (Blk wc b7 [.int .i64 e.tk, .int .i64 e.kd, .int .i64 e.id, .int .i64 e.fl, .int .i64 e.tw]) := h7
      have FN : Hid (NIn wc gq nt) := hN
      have FB : Hid (Below w.heap.size w wc) := hB
      clear h7 hN hB
      have HLN := HLN gq
      go_upto_region 8 with fail
      have F7 : Hid (Blk wc.drew b7 [.int .i64 e.tk, .int .i64 e.kd, .int .i64 e.id, .int .i64 e.fl, .int .i64 e.tw]) := F7.out.below (Below.refl _ _).drew F7.out.lt
      have FB : Hid (Below w.heap.size w wc.drew) := FB.out.drew
      have FN : Hid (NIn wc.drew gq nt) := FN.out.below (Below.refl _ _).drew FN.out.lt
      refine wp_region_held_drew (S := (fun w'' => Blk w'' b7 ([.int .i64 e.tk, .int .i64 e.kd, .int .i64 e.id, .int .i64 e.fl, .int .i64 e.tw]))) (by kernel_rfl) (by (try dsimp only); first | exact F7.out | go_keep) (fun hHeld => ?_)
      obtain ⟨v_4, hw1⟩ : ∃ v_4, v_4 = wc.drew := ⟨_, rfl⟩
      have F7 : Hid (Blk v_4 b7 [.int .i64 e.tk, .int .i64 e.kd, .int .i64 e.id, .int .i64 e.fl, .int .i64 e.tw]) := by rw [hw1]; exact F7.out
      have FB : Hid (Below w.heap.size w v_4) := by rw [hw1]; exact FB.out
      have FN : Hid (NIn v_4 gq nt) := by rw [hw1]; exact FN.out
      rw [← hw1] at hHeld ⊢
      clear hw1
      refine tkz 0 rfl ?_
      refine tkz 1 rfl ?_
      refine tkz 2 rfl ?_ (hy := Or.inl ⟨by kernel_rfl, by (intro wx hSw; have hq0_0 := hSw.c 0 _ rfl; (try dsimp only at hSw); go_simp <;> with_reducible rfl)⟩)
      refine tkz 5 rfl ?_
      refine tkz 6 rfl ?_ (hy := Or.inl ⟨by kernel_rfl, by (intro wx hSw; have hq0_1 := hSw.c 1 _ rfl; (try dsimp only at hSw); go_simp <;> with_reducible rfl)⟩)
      refine tkz 8 rfl ?_
      refine wpAnyH_ready (rs := [3]) (by kernel_rfl) (by simp) ?_
      refine (AllReadyH.cons rfl (fun K hK => ?_) AllReadyH.nil)
      go_simp
      refine (fmtInt_any e.tk eI.tk _ (HT.out.below FB.out (Nat.le_refl _))).mono ?_
      rintro e v_5 ⟨rfl, hb⟩
      have F7 : Hid (Blk v_5 b7 [.int .i64 e.tk, .int .i64 e.kd, .int .i64 e.id, .int .i64 e.fl, .int .i64 e.tw]) := F7.out.below hb F7.out.lt
      have FB : Hid (Below w.heap.size w v_5) := FB.out.trans (hb.mono FB.out.size)
      have FN : Hid (NIn v_5 gq nt) := FN.out.below hb FN.out.lt
      clear hb
      try dsimp only
      refine hK.out _ _ (by (try dsimp only); first | exact F7.out | go_keep) (fun hHeld => ?_)
      clear hK K
      try simp only [Act.put, List.getElem_toArray, List.getElem_cons_succ, List.getElem_cons_zero, List.setIfInBounds_toArray, List.set_cons_zero, List.set_cons_succ]
      refine tkz 4 rfl ?_
      refine wpAnyH_ready (rs := [7]) (by kernel_rfl) (by simp) ?_
      refine (AllReadyH.cons rfl (fun K hK => ?_) AllReadyH.nil)
      go_simp
      refine (eventWord_any e.kd e1 e5 _).mono ?_
      rintro e w_ ⟨rfl, hw⟩
      obtain rfl := hw.symm
      clear hw
      try dsimp only
      refine hK.out _ _ (by (try dsimp only); first | exact F7.out | go_keep) (fun hHeld => ?_)
      clear hK K
      try simp only [Act.put, List.getElem_toArray, List.getElem_cons_succ, List.getElem_cons_zero, List.setIfInBounds_toArray, List.set_cons_zero, List.set_cons_succ]
      refine wpAnyH_ready (rs := [9]) (by kernel_rfl) (by simp) ?_
      refine (AllReadyH.cons rfl (fun K hK => ?_) AllReadyH.nil)
      go_simp
      refine (HLN _ FN.out (HT.out.below FB.out (Nat.le_refl _))).mono ?_
      rintro e v_6 ⟨rfl, hb⟩
      have F7 : Hid (Blk v_6 b7 [.int .i64 e.tk, .int .i64 e.kd, .int .i64 e.id, .int .i64 e.fl, .int .i64 e.tw]) := F7.out.below hb F7.out.lt
      have FB : Hid (Below w.heap.size w v_6) := FB.out.trans (hb.mono FB.out.size)
      have FN : Hid (NIn v_6 gq nt) := FN.out.below hb FN.out.lt
      clear hb
      try dsimp only
      refine hK.out _ _ (by (try dsimp only); first | exact F7.out | go_keep) (fun hHeld => ?_)
      clear hK K
      try simp only [Act.put, List.getElem_toArray, List.getElem_cons_succ, List.getElem_cons_zero, List.setIfInBounds_toArray, List.set_cons_zero, List.set_cons_succ]
      refine tkz 10 rfl ?_
      refine tkz 11 rfl ?_
      refine tkz 12 rfl ?_
      refine wpAnyH_done (by kernel_rfl) ?_ _
      go_wp2_with fail
      go_roundw
      case rel => exact ⟨i + 1, _, by simp, rfl, by rw [HU2.out], by omega, FB.out⟩
      case measure => simp [intOf]; omega
    · have ei : i = l.length := by omega
      have hge : (l.length : Int) ≤ (i : Int) := by omega
      have HU3 : Hid (u = evTx l) := by have := HU.out; rw [ei, List.take_length] at this; exact this
      clear ei HU HE HA HI
      go_wp2_with fail
      go_ret
      exact ⟨ret_str HU3.out, FB.out⟩
end Go.Proofs.YtoacnglcneliiaaGreatDoor
