/-
  Zones: bits of a mask, floors of a mask (the model).
-/
import Derived.Test.YtobiofheekandaaZonQ
import Derived.Test.YtobiofheekandaaZonC
import Derived.Test.YtobiofheekandaaHouseF
import Derived.Test.YtobiofheekandaaHouseP
import Derived.Test.YtobiofheekandaaInts
import Derived.BigGuardPart
import Derived.BigQuiet
import Derived.OwnWalk
namespace Go.Proofs.Ytobiofheekandaa
open Go.RowKit Pl
set_option linter.unusedSimpArgs false
set_option linter.unusedVariables false

set_option maxRecDepth 20000 in
set_option maxHeartbeats 16000000 in
theorem l12Has_any (m f : Nat) (hm : m < 4096) (hf : f < 12) (w : World) :
    Calls Try.prog 77 #[.int .i64 (m : Int), .int .i64 (f : Int)] w fun e w' => e = .returned (.bool (m.testBit f)) ∧ w' = w := by
  have ev := and_bit m f hm hf
  have eb := bN_eq m f
  go_enter Try.func77, Try.ntmps77
  go_wp2
  go_ret
  exact ⟨rfl, rfl⟩
theorem pow_fl {h : Hs} (f1 : 2 ≤ h.fl) (f2 : h.fl ≤ 12) : wrap64 (wrap64 (2 ^ h.fl.toNat) - 1) = 2 ^ h.fl.toNat - 1 := by
  have e : (2 : Int) ^ h.fl.toNat = ((2 ^ h.fl.toNat : Nat) : Int) := by simp
  have l : 2 ^ h.fl.toNat ≤ 2 ^ 12 := Nat.pow_le_pow_right (by decide) (by omega)
  rw [e]
  generalize 2 ^ h.fl.toNat = z at *
  unfold wrap64
  omega
set_option maxRecDepth 20000 in
set_option maxHeartbeats 16000000 in
theorem l12Right_any (h : Hs) (m : Int) (f1 : 2 ≤ h.fl) (f2 : h.fl ≤ 12) (w : World) :
    Calls Try.prog 57 #[.agg #[.int .i64 h.fl, .int .i64 h.gp, .int .i64 h.ln, .int .i64 h.rf, .int .i64 h.sp, .int .i64 h.pu, .int .i64 h.br, .int .i64 h.dr, .int .i64 h.lv, .int .i64 h.dO, .int .i64 h.ld, .int .i64 h.qu], .int .i64 m] w fun e w' => e = .returned (.bool (h.right m)) ∧ Below w.heap.size w w' := by
  have FB : Hid (Below w.heap.size w (w.alloc (.cells #[.int .i64 h.fl, .int .i64 h.gp, .int .i64 h.ln, .int .i64 h.rf, .int .i64 h.sp, .int .i64 h.pu, .int .i64 h.br, .int .i64 h.dr, .int .i64 h.lv, .int .i64 h.dO, .int .i64 h.ld, .int .i64 h.qu] 25))) := (Below.refl _ _).alloc (Nat.le_refl _) _
  have ep := pow_fl f1 f2
  go_enter Try.func57, Try.ntmps57
  go_wp2_with (go_at_call 62; refine (l1In_any _ _ _ _).mono ?_; rintro e w' ⟨rfl, hw⟩; obtain rfl := hw.symm; clear hw)
  go_ret
  exact ⟨rfl, FB.out⟩
/-- One number is put behind a row of one's own. -/
theorem app_i {ops : Array Oper} {rest : List Oper} {o : Oper} {act : Act} {Q : Exit → Act → World → Prop} (W : World) (B : Nat) (v : Value) (l : List Int) (x : Int) (s y : Operand) (hgd : o.guard = none) (hop : o.op = Op.call { callee := Callee.builtin Builtin.append, args := #[s, y], argTypes := #[28, 28] })
    (hs : act.eval s = v) (hy : act.eval y = .slice (some ⟨W.heap.size, 0, none⟩) 1 1) (hown : OwI W B v l) (hl : l.length ≤ 1000) (hB : B ≤ W.heap.size)
    (h : ∀ a' c' w', OwI w' B (.slice a' (l ++ [x]).length c') (l ++ [x]) → W.grownBy w' v.ownBlock → wpList Try.prog ops Q rest (act.put o.dst (.slice a' (l ++ [x]).length c')) w') : wpList Try.prog ops Q (o :: rest) act (W.alloc (.cells #[.int .i64 x] 2)) := by
  obtain ⟨i0, hi, hz, hsz, hby⟩ := info_parts info64
  refine wpList_append_own _ hgd s y 28 hop B 2 i0 (.int .i64 0) 1 8 undI64S hi hz hsz hby rfl (by omega) v l.length _ hs (hown.alloc _) ⟨W.heap.size, 0, none⟩ 1 1 [.int .i64 x] hy rfl (one_new W x _) (one_cell x) (by unfold maxLen; omega) (by omega) (by simp; omega) ?_
  intro v1 w1 ho hg hn
  have ho' : OwI w1 B v1 (l ++ [x]) := by
    unfold OwI
    have e : intsV (l ++ [x]) = intsV l ++ [.int .i64 x] := by simp [intsV]
    rw [List.length_append, e]
    exact ho
  obtain ⟨a', c', rfl⟩ := ho'.sl
  exact h a' c' w1 ho' ⟨hg.os, hg.tape, hg.output, Nat.le_trans (by simp) hg.size, fun k hk hne => (hg.block k (by simp; omega) hne).trans (Below.heap_alloc W _ k hk)⟩
theorem own_empty0 (w : World) (B : Nat) (hB : B ≤ w.heap.size) : OwI (w.alloc (.cells #[] 2)) B (.slice (some ⟨w.heap.size, 0, none⟩) 0 0) [] :=
  World.ownsRow_lit (base := B) (e := 2) (size := 1) w #[] 0 hB (by unfold maxLen; omega) rfl
theorem fls_succ (k m : Nat) : fls (k + 1) m = fls k m ++ (if m.testBit k = true then [(k : Int)] else []) := by
  unfold fls
  rw [flsN_succ]
  split <;> simp
theorem fls_yes {k m : Nat} (h : m.testBit k = true) : fls (k + 1) m = fls k m ++ [(k : Int)] := by rw [fls_succ, if_pos h]
theorem fls_no {k m : Nat} (h : m.testBit k = false) : fls (k + 1) m = fls k m := by rw [fls_succ, h]; simp
set_option maxRecDepth 20000 in
set_option maxHeartbeats 16000000 in
theorem l12Floors_any (h : Hs) (m : Nat) (f1 : 2 ≤ h.fl) (f2 : h.fl ≤ 12) (hm : m < 4096) (w : World) :
    Calls Try.prog 58 #[.agg #[.int .i64 h.fl, .int .i64 h.gp, .int .i64 h.ln, .int .i64 h.rf, .int .i64 h.sp, .int .i64 h.pu, .int .i64 h.br, .int .i64 h.dr, .int .i64 h.lv, .int .i64 h.dO, .int .i64 h.ld, .int .i64 h.qu], .int .i64 (m : Int)] w fun e w' => ∃ v, e = .returned v ∧ OwI w' w.heap.size v (fls h.fl.toNat m) ∧ Below w.heap.size w w' := by
  obtain ⟨b0, hb0⟩ : ∃ b0, b0 = w.heap.size := ⟨_, rfl⟩
  obtain ⟨b1, hb1⟩ : ∃ b1, b1 = b0 + 1 := ⟨_, rfl⟩
  obtain ⟨W0, hW0⟩ : ∃ W0, W0 = (w.alloc (.cells #[.int .i64 h.fl, .int .i64 h.gp, .int .i64 h.ln, .int .i64 h.rf, .int .i64 h.sp, .int .i64 h.pu, .int .i64 h.br, .int .i64 h.dr, .int .i64 h.lv, .int .i64 h.dO, .int .i64 h.ld, .int .i64 h.qu] 25)).alloc (.cells #[] 2) := ⟨_, rfl⟩
  have F0 : Hid (Blk W0 b0 [.int .i64 h.fl, .int .i64 h.gp, .int .i64 h.ln, .int .i64 h.rf, .int .i64 h.sp, .int .i64 h.pu, .int .i64 h.br, .int .i64 h.dr, .int .i64 h.lv, .int .i64 h.dO, .int .i64 h.ld, .int .i64 h.qu]) := by rw [hW0]; exact (Blk.at_ w #[.int .i64 h.fl, .int .i64 h.gp, .int .i64 h.ln, .int .i64 h.rf, .int .i64 h.sp, .int .i64 h.pu, .int .i64 h.br, .int .i64 h.dr, .int .i64 h.lv, .int .i64 h.dO, .int .i64 h.ld, .int .i64 h.qu] _ _ hb0).alloc _
  have FO : Hid (OwI W0 b1 (.slice (some ⟨b1, 0, none⟩) 0 0) []) := by
    rw [hW0, hb1]
    have q := own_empty0 (w.alloc (.cells #[.int .i64 h.fl, .int .i64 h.gp, .int .i64 h.ln, .int .i64 h.rf, .int .i64 h.sp, .int .i64 h.pu, .int .i64 h.br, .int .i64 h.dr, .int .i64 h.lv, .int .i64 h.dO, .int .i64 h.ld, .int .i64 h.qu] 25)) (b0 + 1) (by simp; omega)
    have e : (w.alloc (.cells #[.int .i64 h.fl, .int .i64 h.gp, .int .i64 h.ln, .int .i64 h.rf, .int .i64 h.sp, .int .i64 h.pu, .int .i64 h.br, .int .i64 h.dr, .int .i64 h.lv, .int .i64 h.dO, .int .i64 h.ld, .int .i64 h.qu] 25)).heap.size = b0 + 1 := by simp; omega
    rw [e] at q
    exact q
  have FB : Hid (Below w.heap.size w W0) := by rw [hW0]; exact ((Below.refl _ _).alloc (Nat.le_refl _) _).alloc (by simp) _
  have lb1 : w.heap.size ≤ b1 := by omega
  have lb2 : b0 < b1 := by omega
  have hS : Hid (b1 ≤ W0.heap.size) := by rw [hW0]; show b1 ≤ _; simp; omega
  obtain ⟨n, hn⟩ : ∃ n : Nat, h.fl = (n : Int) := ⟨h.fl.toNat, by omega⟩
  have en : h.fl.toNat = n := by omega
  have n12 : n ≤ 12 := by omega
  have HN : Hid (h.fl = (n : Int)) := hn
  rw [en]
  clear en hn
  go_enter Try.func58, Try.ntmps58
  go_upto_region 2 with fail
  rw [← hb0, ← hb1, ← hW0]
  clear hb0 hb1 hW0
  go_wp2_with fail
  go_loopw [5, 6] (fun vv ff wr => ∃ (k : Nat) (va : Option Addr) (vc : Nat), vv = .slice va (fls k m).length vc ∧ ff = .int .i64 (k : Int) ∧ k ≤ n ∧ OwI wr b1 (.slice va (fls k m).length vc) (fls k m) ∧ Blk wr b0 [.int .i64 h.fl, .int .i64 h.gp, .int .i64 h.ln, .int .i64 h.rf, .int .i64 h.sp, .int .i64 h.pu, .int .i64 h.br, .int .i64 h.dr, .int .i64 h.lv, .int .i64 h.dO, .int .i64 h.ld, .int .i64 h.qu] ∧ b1 ≤ wr.heap.size ∧ Below w.heap.size w wr) (fun _ ff _ => n - (intOf ff).toNat)
  case atStart => exact ⟨0, _, _, rfl, rfl, by omega, FO.out, F0.out, hS.out, FB.out⟩
  case round =>
    obtain ⟨k, va, vc, rfl, rfl, hk, ho, h0, hs, hb⟩ := hrel
    have c0 := h0.c 0 _ rfl
    rw [HN.out] at c0
    have ll := fls_len k m
    by_cases hlt : k < n
    · have d : decide ((k : Int) < (n : Int)) = true := decide_eq_true (by omega)
      cases hB : m.testBit k
      · have HE : Hid (fls (k + 1) m = fls k m) := fls_no hB
        obtain ⟨M, hM⟩ : ∃ M, fls k m = M := ⟨_, rfl⟩
        rw [hM] at ho HE ll ⊢
        clear hM
        go_wp2_with (go_at_call 77; refine (l12Has_any m k hm (by omega) _).mono ?_; rw [hB]; rintro e w' ⟨rfl, hw⟩; obtain rfl := hw.symm; clear hw)
        go_roundw
        case rel => exact ⟨k + 1, va, vc, by rw [HE.out], by simp, by omega, by rw [HE.out]; exact ho, h0, hs, hb⟩
        case measure => simp [intOf]; omega
      · have HE : Hid (fls (k + 1) m = fls k m ++ [(k : Int)]) := fls_yes hB
        obtain ⟨M, hM⟩ : ∃ M, fls k m = M := ⟨_, rfl⟩
        rw [hM] at ho HE ll ⊢
        clear hM
        go_wp2_with (first | (go_at_call 77; refine (l12Has_any m k hm (by omega) _).mono ?_; rw [hB]; rintro e w' ⟨rfl, hw⟩; obtain rfl := hw.symm; clear hw) | (at_builtin; refine app_i _ b1 _ M (k : Int) _ _ rfl rfl rfl rfl ho (by omega) hs ?_; intro a' c' w2 ho2 hg))
        go_roundw
        case rel => exact ⟨k + 1, a', c', by rw [HE.out, List.length_append]; rfl, by simp, by omega, by rw [HE.out]; exact ho2, h0.grown hg (fun e => by have := (ho.lt b0 e.symm).1; omega), Nat.le_trans hs hg.size, hb.grown hg hb.size (fun j hj => Nat.le_trans lb1 (ho.lt j hj).1)⟩
        case measure => simp [intOf]; omega
    · have d : decide ((k : Int) < (n : Int)) = false := decide_eq_false (by omega)
      have e : k = n := by omega
      subst e
      have HO : Hid (OwI wr w.heap.size (.slice va (fls k m).length vc) (fls k m)) := ho.base lb1
      clear ho ll
      go_wp2
      go_ret
      exact ⟨_, rfl, HO.out, hb⟩
theorem wrap_pow {q : Nat} (hq : q < 12) : wrap64 ((2 : Int) ^ q) = (2 : Int) ^ q := by
  have ep := p12I hq
  generalize (2 : Int) ^ q = z at *
  unfold wrap64
  omega
theorem or_pow {M q : Nat} (hM : M < 4096) (hq : q < 12) : bits BinOp.or IntKind.i64 (M : Int) ((2 : Int) ^ q) = ((M ||| 2 ^ q : Nat) : Int) := by
  rw [(p12I hq).1]
  exact or_i64 (lt62 hM) (lt62 (by have := p12 hq; omega))
set_option maxRecDepth 20000 in
set_option maxHeartbeats 16000000 in
theorem specMask_any (h : Hs) (l : List Int) (a : Option Addr) (cap : Nat) (hl : l.length ≤ 1048576) (w : World) (hI : IIn w a l) :
    Calls Try.prog 30 #[.agg #[.int .i64 h.fl, .int .i64 h.gp, .int .i64 h.ln, .int .i64 h.rf, .int .i64 h.sp, .int .i64 h.pu, .int .i64 h.br, .int .i64 h.dr, .int .i64 h.lv, .int .i64 h.dO, .int .i64 h.ld, .int .i64 h.qu], .slice a l.length cap] w fun e w' => e = .returned (.agg #[.int .i64 (h.mskK l), .int .i64 (h.mskV l)]) ∧ Below w.heap.size w w' := by
  have HI : Hid (IIn w a l) := hI
  clear hI
  obtain ⟨K, hK⟩ : ∃ K, h.mskK l = K := ⟨_, rfl⟩
  obtain ⟨V, hV⟩ : ∃ V, h.mskV l = V := ⟨_, rfl⟩
  rw [hK, hV]
  have HK0 : Hid (h.mskK l = K) := hK
  have HV0 : Hid (h.mskV l = V) := hV
  clear hK hV
  obtain ⟨b0, hb0⟩ : ∃ b0, b0 = w.heap.size := ⟨_, rfl⟩
  obtain ⟨b1, hb1⟩ : ∃ b1, b1 = b0 + 1 := ⟨_, rfl⟩
  obtain ⟨W0, hW0⟩ : ∃ W0, W0 = (w.alloc (.cells #[.int .i64 h.fl, .int .i64 h.gp, .int .i64 h.ln, .int .i64 h.rf, .int .i64 h.sp, .int .i64 h.pu, .int .i64 h.br, .int .i64 h.dr, .int .i64 h.lv, .int .i64 h.dO, .int .i64 h.ld, .int .i64 h.qu] 25)).alloc (.cells #[.int .i64 0, .int .i64 0] 33) := ⟨_, rfl⟩
  have F0 : Hid (Blk W0 b0 [.int .i64 h.fl, .int .i64 h.gp, .int .i64 h.ln, .int .i64 h.rf, .int .i64 h.sp, .int .i64 h.pu, .int .i64 h.br, .int .i64 h.dr, .int .i64 h.lv, .int .i64 h.dO, .int .i64 h.ld, .int .i64 h.qu]) := by rw [hW0]; exact (Blk.at_ w #[.int .i64 h.fl, .int .i64 h.gp, .int .i64 h.ln, .int .i64 h.rf, .int .i64 h.sp, .int .i64 h.pu, .int .i64 h.br, .int .i64 h.dr, .int .i64 h.lv, .int .i64 h.dO, .int .i64 h.ld, .int .i64 h.qu] _ _ hb0).alloc _
  have F1 : Hid (Blk W0 b1 [.int .i64 0, .int .i64 0]) := by rw [hW0]; exact Blk.at_ _ #[.int .i64 0, .int .i64 0] _ _ (by simp; omega)
  have FB : Hid (Below w.heap.size w W0) := by rw [hW0]; exact ((Below.refl _ _).alloc (Nat.le_refl _) _).alloc (by simp) _
  have leb0 : w.heap.size ≤ b0 := by omega
  have leb1 : w.heap.size ≤ b1 := by omega
  have l01 : b0 < b1 := by omega
  obtain ⟨kf, hkf⟩ : ∃ kf, h.fault = kf := ⟨_, rfl⟩
  have HF : Hid (h.fault = kf) := hkf
  clear hkf
  go_enter Try.func30, Try.ntmps30
  go_upto_region 1 with fail
  rw [← hb0, ← hb1, ← hW0]
  clear hb0 hb1 hW0
  go_upto_region 2 with (first | (refine load_blk 25 _ Try.underlying25 (by kernel_rfl) F0.out rfl rfl rfl ?_) | (go_at_call 56; refine (specFault_any h _).mono ?_; rw [HF.out]; rintro e w1 ⟨rfl, hb⟩; have F0 : Hid (Blk w1 b0 [.int .i64 h.fl, .int .i64 h.gp, .int .i64 h.ln, .int .i64 h.rf, .int .i64 h.sp, .int .i64 h.pu, .int .i64 h.br, .int .i64 h.dr, .int .i64 h.lv, .int .i64 h.dO, .int .i64 h.ld, .int .i64 h.qu]) := F0.out.below hb F0.out.lt; have F1 : Hid (Blk w1 b1 [.int .i64 0, .int .i64 0]) := F1.out.below hb F1.out.lt; have FB : Hid (Below w.heap.size w w1) := FB.out.trans (hb.mono FB.out.size); clear hb))
  by_cases hz : kf = 0
  case neg =>
    have hn : (kf != 0) = true := by simpa using hz
    have HK : Hid ((kf : Int) = K) := by show _ = K; rw [← HK0.out]; unfold Hs.mskK; rw [HF.out, if_neg hz]
    have HV : Hid ((0 : Int) = V) := by show _ = V; rw [← HV0.out]; unfold Hs.mskV; rw [HK0.out, ← HK.out, if_neg (by first | assumption | decide)]
    go_wp2_with (refine store_blk [.int .i64 (kf), .int .i64 (0)] 33 _ _ (by kernel_rfl) (by kernel_rfl) (by kernel_rfl) F1.out rfl rfl rfl rfl ?_)
    exact bodyPost_ret (v := .agg #[.int .i64 (kf), .int .i64 (0)]) ((F1.out.row [.int .i64 (kf), .int .i64 (0)]).res _ Try.results30 Try.underlying33 (by kernel_rfl) rfl) rfl ⟨ret_pr HK.out HV.out, below_row FB.out leb1 _⟩
  case pos =>
  subst hz
  obtain ⟨f1, f2⟩ := fl_of HF.out
  by_cases h40 : 40 < l.length
  case pos =>
    have d : decide ((40 : Int) < (l.length : Int)) = true := decide_eq_true (by omega)
    have HK : Hid ((2 : Int) = K) := by show _ = K; rw [← HK0.out]; unfold Hs.mskK; rw [HF.out, if_pos rfl, if_pos h40]
    have HV : Hid ((0 : Int) = V) := by show _ = V; rw [← HV0.out]; unfold Hs.mskV; rw [HK0.out, ← HK.out, if_neg (by first | assumption | decide)]
    go_wp2_with (refine store_blk [.int .i64 (2), .int .i64 (0)] 33 _ _ (by kernel_rfl) (by kernel_rfl) (by kernel_rfl) F1.out rfl rfl rfl rfl ?_)
    exact bodyPost_ret (v := .agg #[.int .i64 (2), .int .i64 (0)]) ((F1.out.row [.int .i64 (2), .int .i64 (0)]).res _ Try.results30 Try.underlying33 (by kernel_rfl) rfl) rfl ⟨ret_pr HK.out HV.out, below_row FB.out leb1 _⟩
  case neg =>
  have d : decide ((40 : Int) < (l.length : Int)) = false := decide_eq_false (by omega)
  go_upto_region 6 with fail
  clear d
  go_wp2_with fail
  go_loopw [6, 7] (fun mm ii wr => ∃ i : Nat, ii = .int .i64 (i : Int) ∧ mm = .int .i64 ((maskN (l.take i) : Nat) : Int) ∧ i ≤ l.length ∧ h.allF (l.take i) = true ∧ Blk wr b0 [.int .i64 h.fl, .int .i64 h.gp, .int .i64 h.ln, .int .i64 h.rf, .int .i64 h.sp, .int .i64 h.pu, .int .i64 h.br, .int .i64 h.dr, .int .i64 h.lv, .int .i64 h.dO, .int .i64 h.ld, .int .i64 h.qu] ∧ Blk wr b1 [.int .i64 0, .int .i64 0] ∧ Below w.heap.size w wr) (fun _ ii _ => l.length - (intOf ii).toNat)
  case atStart => exact ⟨0, rfl, rfl, by omega, rfl, F0.out, F1.out, FB.out⟩
  case round =>
    obtain ⟨i, rfl, rfl, hi, ha, hf0, hf1, hb⟩ := hrel
    have F0 : Hid (Blk wr b0 [.int .i64 h.fl, .int .i64 h.gp, .int .i64 h.ln, .int .i64 h.rf, .int .i64 h.sp, .int .i64 h.pu, .int .i64 h.br, .int .i64 h.dr, .int .i64 h.lv, .int .i64 h.dO, .int .i64 h.ld, .int .i64 h.qu]) := hf0
    have F1 : Hid (Blk wr b1 [.int .i64 0, .int .i64 0]) := hf1
    have FB : Hid (Below w.heap.size w wr) := hb
    have lm : maskN (l.take i) < 4096 := Nat.lt_of_lt_of_le (maskN_lt (allF_bd ha)) (by have := Nat.pow_le_pow_right (show 0 < 2 by decide) (show h.fl.toNat ≤ 12 by omega); omega)
    have HA : Hid (h.allF (l.take i) = true) := ha
    clear hf0 hf1 hb ha
    by_cases hlt : i < l.length
    · obtain ⟨x, hx⟩ : ∃ x, l[i]? = some x := ⟨_, List.getElem?_eq_getElem hlt⟩
      have HX : Hid (l[i]? = some x) := hx
      rcases HI.out with h0 | ⟨g, rfl, hg, hc⟩
      · rw [h0] at hlt; simp at hlt
      have c0 := (FB.out.cell (p := ⟨g, i, none⟩) hg).trans (hc i x hx)
      have z0 := F0.out.c 0 _ rfl
      have ef : IntKind.i64.wrap (h.fl - 1) = h.fl - 1 := IntWalk.i64_in _ (by omega)
      have ef2 : wrap64 (h.fl - 1) = h.fl - 1 := by unfold wrap64; omega
      clear hx hc
      cases hC : inB x 0 (h.fl - 1)
      · have hFl := allF_no (h := h) HX.out hC
        have HK : Hid ((3 : Int) = K) := by show _ = K; rw [← HK0.out]; unfold Hs.mskK; rw [HF.out, if_pos rfl, if_neg h40, hFl]; rfl
        have HV : Hid ((0 : Int) = V) := by show _ = V; rw [← HV0.out]; unfold Hs.mskV; rw [HK0.out, ← HK.out]; rfl
        go_wp2_with fail
        go_quiet ((go_at_call 62; exact Calls.quiet_of_same (l1In_any _ _ _ _)))
        obtain ⟨w5, hW2⟩ : ∃ w5, w5 = wr.drewN nq := ⟨_, rfl⟩
        have e0 : w5.heap = wr.heap := by rw [hW2]; rfl
        have FBo := FB
        have F0 : Hid (Blk w5 b0 [.int .i64 h.fl, .int .i64 h.gp, .int .i64 h.ln, .int .i64 h.rf, .int .i64 h.sp, .int .i64 h.pu, .int .i64 h.br, .int .i64 h.dr, .int .i64 h.lv, .int .i64 h.dO, .int .i64 h.ld, .int .i64 h.qu]) := F0.out.of (by rw [e0])
        have F1 : Hid (Blk w5 b1 [.int .i64 0, .int .i64 0]) := F1.out.of (by rw [e0])
        have FB : Hid (Below w.heap.size w w5) := by rw [hW2]; exact ⟨FBo.out.os, FBo.out.tape, FBo.out.output, FBo.out.size, FBo.out.block⟩
        rw [← hW2]
        clear hW2 e0
        go_wp2_with (refine store_blk [.int .i64 (3), .int .i64 (0)] 33 _ _ (by kernel_rfl) (by kernel_rfl) (by kernel_rfl) F1.out rfl rfl rfl rfl ?_)
        exact bodyPost_ret (v := .agg #[.int .i64 (3), .int .i64 (0)]) ((F1.out.row [.int .i64 (3), .int .i64 (0)]).res _ Try.results30 Try.underlying33 (by kernel_rfl) rfl) rfl ⟨ret_pr HK.out HV.out, below_row FB.out leb1 _⟩
      · have HT : Hid (h.allF (l.take (i + 1)) = true) := by show _ = true; rw [allF_take HX.out, HA.out, hC]; rfl
        obtain ⟨x1, x2⟩ := inB_iff.1 hC
        obtain ⟨q, rfl⟩ : ∃ q : Nat, x = (q : Int) := ⟨x.toNat, by omega⟩
        have hq : q < 12 := by omega
        have HM : Hid (maskN (l.take (i + 1)) = maskN (l.take i) ||| 2 ^ q) := by show _ = _; rw [maskN_take HX.out, Int.toNat_natCast]
        obtain ⟨M, hM⟩ : ∃ M, maskN (l.take i) = M := ⟨_, rfl⟩
        rw [hM] at HM lm ⊢
        have ew := wrap_pow hq
        have eo := or_pow lm hq
        rw [← hM]
        obtain ⟨M1, hM1⟩ : ∃ M1, M ||| 2 ^ q = M1 := ⟨_, rfl⟩
        rw [hM1] at HM eo
        rw [hM]
        clear hM hM1
        go_wp2_with fail
        go_quiet ((go_at_call 62; exact Calls.quiet_of_same (l1In_any _ _ _ _)))
        obtain ⟨w5, hW2⟩ : ∃ w5, w5 = wr.drewN nq := ⟨_, rfl⟩
        have e0 : w5.heap = wr.heap := by rw [hW2]; rfl
        have FBo := FB
        have F0 : Hid (Blk w5 b0 [.int .i64 h.fl, .int .i64 h.gp, .int .i64 h.ln, .int .i64 h.rf, .int .i64 h.sp, .int .i64 h.pu, .int .i64 h.br, .int .i64 h.dr, .int .i64 h.lv, .int .i64 h.dO, .int .i64 h.ld, .int .i64 h.qu]) := F0.out.of (by rw [e0])
        have F1 : Hid (Blk w5 b1 [.int .i64 0, .int .i64 0]) := F1.out.of (by rw [e0])
        have FB : Hid (Below w.heap.size w w5) := by rw [hW2]; exact ⟨FBo.out.os, FBo.out.tape, FBo.out.output, FBo.out.size, FBo.out.block⟩
        rw [← hW2]
        clear hW2 e0
        have c5 : w5.cell? ⟨g, i, none⟩ = some (.int .i64 (q : Int)) := (FB.out.cell (p := ⟨g, i, none⟩) hg).trans ((FBo.out.cell (p := ⟨g, i, none⟩) hg).symm.trans c0)
        go_wp2_with fail
        go_roundw
        case rel => exact ⟨i + 1, by simp, by rw [HM.out], by omega, HT.out, F0.out, F1.out, FB.out⟩
        case measure => simp [intOf]; omega
    · have e : i = l.length := by omega
      subst e
      have HT : Hid (h.allF l = true) := by show _ = true; rw [← HA.out, List.take_length]
      have HM : Hid (((maskN l : Nat) : Int) = V) := by show _ = V; rw [← HV0.out]; unfold Hs.mskV Hs.mskK; rw [HF.out, if_pos rfl, if_neg h40, HT.out]; rfl
      have HK : Hid ((0 : Int) = K) := by show _ = K; rw [← HK0.out]; unfold Hs.mskK; rw [HF.out, if_pos rfl, if_neg h40, HT.out]; rfl
      rw [List.take_length]
      clear HA lm
      obtain ⟨M, hM⟩ : ∃ M : Int, ((maskN l : Nat) : Int) = M := ⟨_, rfl⟩
      rw [hM] at HM ⊢
      clear hM
      go_wp2_with (refine store_blk [.int .i64 (0), .int .i64 (M)] 33 _ _ (by kernel_rfl) (by kernel_rfl) (by kernel_rfl) F1.out rfl rfl rfl rfl ?_)
      exact bodyPost_ret (v := .agg #[.int .i64 (0), .int .i64 (M)]) ((F1.out.row [.int .i64 (0), .int .i64 (M)]).res _ Try.results30 Try.underlying33 (by kernel_rfl) rfl) rfl ⟨ret_pr HK.out HM.out, below_row FB.out leb1 _⟩
end Go.Proofs.Ytobiofheekandaa
