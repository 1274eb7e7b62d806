/-
  Zones: bits of a mask, floors of a mask (the model).
-/
import Derived.Test.YthinefjakimccaaZonQ
import Derived.Test.YthinefjakimccaaZonC
import Derived.Test.YthinefjakimccaaHouseF
import Derived.Test.YthinefjakimccaaHouseP
import Derived.Test.YthinefjakimccaaInts
import Derived.BigGuardPart
import Derived.BigQuiet
import Derived.OwnWalk
namespace Go.Proofs.Ythinefjakimccaa
open Go.RowKit Pl
set_option linter.unusedSimpArgs false
set_option linter.unusedVariables false

set_option maxRecDepth 20000 in
set_option maxHeartbeats 16000000 in
theorem l12Has_any (m f : Nat) (hm : m < 4096) (hf : f < 12) (w : World) :
    Calls Try.prog 71 #[.int .i64 (m : Int), .int .i64 (f : Int)] w fun e w' => e = .returned (.bool (m.testBit f)) ∧ w' = w := by
  have ev := and_bit m f hm hf
  have eb := bN_eq m f
  go_enter Try.func71, Try.ntmps71
  go_wp2
  go_ret
  exact ⟨rfl, rfl⟩
theorem pow_fl {h : Hs} (f1 : 2 ≤ h.fl) (f2 : h.fl ≤ 12) : wrap64 (wrap64 (2 ^ h.fl.toNat) - 1) = 2 ^ h.fl.toNat - 1 := by
  have e : (2 : Int) ^ h.fl.toNat = ((2 ^ h.fl.toNat : Nat) : Int) := by simp
  have l : 2 ^ h.fl.toNat ≤ 2 ^ 12 := Nat.pow_le_pow_right (by decide) (by omega)
  rw [e]
  generalize 2 ^ h.fl.toNat = z at *
  unfold wrap64
  omega
set_option maxRecDepth 20000 in
set_option maxHeartbeats 16000000 in
theorem l12Right_any (h : Hs) (m : Int) (f1 : 2 ≤ h.fl) (f2 : h.fl ≤ 12) (w : World) :
    Calls Try.prog 44 #[.agg #[.int .i64 h.fl, .int .i64 h.gp, .int .i64 h.ln, .int .i64 h.rf, .int .i64 h.sp, .int .i64 h.pu, .int .i64 h.br, .int .i64 h.dr, .int .i64 h.lv, .int .i64 h.dO, .int .i64 h.ld, .int .i64 h.qu], .int .i64 m] w fun e w' => e = .returned (.bool (h.right m)) ∧ Below w.heap.size w w' := by
  have FB : Hid (Below w.heap.size w (w.alloc (.cells #[.int .i64 h.fl, .int .i64 h.gp, .int .i64 h.ln, .int .i64 h.rf, .int .i64 h.sp, .int .i64 h.pu, .int .i64 h.br, .int .i64 h.dr, .int .i64 h.lv, .int .i64 h.dO, .int .i64 h.ld, .int .i64 h.qu] 28))) := (Below.refl _ _).alloc (Nat.le_refl _) _
  have ep := pow_fl f1 f2
  go_enter Try.func44, Try.ntmps44
  go_wp2_with (go_at_call 48; refine (l1In_any _ _ _ _).mono ?_; rintro e w' ⟨rfl, hw⟩; obtain rfl := hw.symm; clear hw)
  go_ret
  exact ⟨rfl, FB.out⟩
/-- One number is put behind a row of one's own. -/
theorem app_i {ops : Array Oper} {rest : List Oper} {o : Oper} {act : Act} {Q : Exit → Act → World → Prop} (W : World) (B : Nat) (v : Value) (l : List Int) (x : Int) (s y : Operand) (hgd : o.guard = none) (hop : o.op = Op.call { callee := Callee.builtin Builtin.append, args := #[s, y], argTypes := #[24, 24] })
    (hs : act.eval s = v) (hy : act.eval y = .slice (some ⟨W.heap.size, 0, none⟩) 1 1) (hown : OwI W B v l) (hl : l.length ≤ 1000) (hB : B ≤ W.heap.size)
    (h : ∀ a' c' w', OwI w' B (.slice a' (l ++ [x]).length c') (l ++ [x]) → W.grownBy w' v.ownBlock → wpList Try.prog ops Q rest (act.put o.dst (.slice a' (l ++ [x]).length c')) w') : wpList Try.prog ops Q (o :: rest) act (W.alloc (.cells #[.int .i64 x] 2)) := by
  obtain ⟨i0, hi, hz, hsz, hby⟩ := info_parts info64
  refine wpList_append_own _ hgd s y 24 hop B 2 i0 (.int .i64 0) 1 8 undI64S hi hz hsz hby rfl (by omega) v l.length _ hs (hown.alloc _) ⟨W.heap.size, 0, none⟩ 1 1 [.int .i64 x] hy rfl (one_new W x _) (one_cell x) (by unfold maxLen; omega) (by omega) (by simp; omega) ?_
  intro v1 w1 ho hg hn
  have ho' : OwI w1 B v1 (l ++ [x]) := by
    unfold OwI
    have e : intsV (l ++ [x]) = intsV l ++ [.int .i64 x] := by simp [intsV]
    rw [List.length_append, e]
    exact ho
  obtain ⟨a', c', rfl⟩ := ho'.sl
  exact h a' c' w1 ho' ⟨hg.os, hg.tape, hg.output, Nat.le_trans (by simp) hg.size, fun k hk hne => (hg.block k (by simp; omega) hne).trans (Below.heap_alloc W _ k hk)⟩
theorem own_empty0 (w : World) (B : Nat) (hB : B ≤ w.heap.size) : OwI (w.alloc (.cells #[] 2)) B (.slice (some ⟨w.heap.size, 0, none⟩) 0 0) [] :=
  World.ownsRow_lit (base := B) (e := 2) (size := 1) w #[] 0 hB (by unfold maxLen; omega) rfl
theorem fls_succ (k m : Nat) : fls (k + 1) m = fls k m ++ (if m.testBit k = true then [(k : Int)] else []) := by
  unfold fls
  rw [flsN_succ]
  split <;> simp
theorem fls_yes {k m : Nat} (h : m.testBit k = true) : fls (k + 1) m = fls k m ++ [(k : Int)] := by rw [fls_succ, if_pos h]
theorem fls_no {k m : Nat} (h : m.testBit k = false) : fls (k + 1) m = fls k m := by rw [fls_succ, h]; simp
set_option maxRecDepth 20000 in
set_option maxHeartbeats 16000000 in
theorem l12Floors_any (h : Hs) (m : Nat) (f1 : 2 ≤ h.fl) (f2 : h.fl ≤ 12) (hm : m < 4096) (w : World) :
    Calls Try.prog 45 #[.agg #[.int .i64 h.fl, .int .i64 h.gp, .int .i64 h.ln, .int .i64 h.rf, .int .i64 h.sp, .int .i64 h.pu, .int .i64 h.br, .int .i64 h.dr, .int .i64 h.lv, .int .i64 h.dO, .int .i64 h.ld, .int .i64 h.qu], .int .i64 (m : Int)] w fun e w' => ∃ v, e = .returned v ∧ OwI w' w.heap.size v (fls h.fl.toNat m) ∧ Below w.heap.size w w' := by
  obtain ⟨b0, hb0⟩ : ∃ b0, b0 = w.heap.size := ⟨_, rfl⟩
  obtain ⟨b1, hb1⟩ : ∃ b1, b1 = b0 + 1 := ⟨_, rfl⟩
  obtain ⟨W0, hW0⟩ : ∃ W0, W0 = (w.alloc (.cells #[.int .i64 h.fl, .int .i64 h.gp, .int .i64 h.ln, .int .i64 h.rf, .int .i64 h.sp, .int .i64 h.pu, .int .i64 h.br, .int .i64 h.dr, .int .i64 h.lv, .int .i64 h.dO, .int .i64 h.ld, .int .i64 h.qu] 28)).alloc (.cells #[] 2) := ⟨_, rfl⟩
  have F0 : Hid (Blk W0 b0 [.int .i64 h.fl, .int .i64 h.gp, .int .i64 h.ln, .int .i64 h.rf, .int .i64 h.sp, .int .i64 h.pu, .int .i64 h.br, .int .i64 h.dr, .int .i64 h.lv, .int .i64 h.dO, .int .i64 h.ld, .int .i64 h.qu]) := by rw [hW0]; exact (Blk.at_ w #[.int .i64 h.fl, .int .i64 h.gp, .int .i64 h.ln, .int .i64 h.rf, .int .i64 h.sp, .int .i64 h.pu, .int .i64 h.br, .int .i64 h.dr, .int .i64 h.lv, .int .i64 h.dO, .int .i64 h.ld, .int .i64 h.qu] _ _ hb0).alloc _
  have FO : Hid (OwI W0 b1 (.slice (some ⟨b1, 0, none⟩) 0 0) []) := by
    rw [hW0, hb1]
    have q := own_empty0 (w.alloc (.cells #[.int .i64 h.fl, .int .i64 h.gp, .int .i64 h.ln, .int .i64 h.rf, .int .i64 h.sp, .int .i64 h.pu, .int .i64 h.br, .int .i64 h.dr, .int .i64 h.lv, .int .i64 h.dO, .int .i64 h.ld, .int .i64 h.qu] 28)) (b0 + 1) (by simp; omega)
    have e : (w.alloc (.cells #[.int .i64 h.fl, .int .i64 h.gp, .int .i64 h.ln, .int .i64 h.rf, .int .i64 h.sp, .int .i64 h.pu, .int .i64 h.br, .int .i64 h.dr, .int .i64 h.lv, .int .i64 h.dO, .int .i64 h.ld, .int .i64 h.qu] 28)).heap.size = b0 + 1 := by simp; omega
    rw [e] at q
    exact q
  have FB : Hid (Below w.heap.size w W0) := by rw [hW0]; exact ((Below.refl _ _).alloc (Nat.le_refl _) _).alloc (by simp) _
  have lb1 : w.heap.size ≤ b1 := by omega
  have lb2 : b0 < b1 := by omega
  have hS : Hid (b1 ≤ W0.heap.size) := by rw [hW0]; show b1 ≤ _; simp; omega
  obtain ⟨n, hn⟩ : ∃ n : Nat, h.fl = (n : Int) := ⟨h.fl.toNat, by omega⟩
  have en : h.fl.toNat = n := by omega
  have n12 : n ≤ 12 := by omega
  have HN : Hid (h.fl = (n : Int)) := hn
  rw [en]
  clear en hn
  go_enter Try.func45, Try.ntmps45
  go_upto_region 2 with fail
  rw [← hb0, ← hb1, ← hW0]
  clear hb0 hb1 hW0
  go_wp2_with fail
  go_loopw [5, 6] (fun vv ff wr => ∃ (k : Nat) (va : Option Addr) (vc : Nat), vv = .slice va (fls k m).length vc ∧ ff = .int .i64 (k : Int) ∧ k ≤ n ∧ OwI wr b1 (.slice va (fls k m).length vc) (fls k m) ∧ Blk wr b0 [.int .i64 h.fl, .int .i64 h.gp, .int .i64 h.ln, .int .i64 h.rf, .int .i64 h.sp, .int .i64 h.pu, .int .i64 h.br, .int .i64 h.dr, .int .i64 h.lv, .int .i64 h.dO, .int .i64 h.ld, .int .i64 h.qu] ∧ b1 ≤ wr.heap.size ∧ Below w.heap.size w wr) (fun _ ff _ => n - (intOf ff).toNat)
  case atStart => exact ⟨0, _, _, rfl, rfl, by omega, FO.out, F0.out, hS.out, FB.out⟩
  case round =>
    obtain ⟨k, va, vc, rfl, rfl, hk, ho, h0, hs, hb⟩ := hrel
    have c0 := h0.c 0 _ rfl
    rw [HN.out] at c0
    have ll := fls_len k m
    by_cases hlt : k < n
    · have d : decide ((k : Int) < (n : Int)) = true := decide_eq_true (by omega)
      cases hB : m.testBit k
      · have HE : Hid (fls (k + 1) m = fls k m) := fls_no hB
        obtain ⟨M, hM⟩ : ∃ M, fls k m = M := ⟨_, rfl⟩
        rw [hM] at ho HE ll ⊢
        clear hM
        go_wp2_with (go_at_call 71; refine (l12Has_any m k hm (by omega) _).mono ?_; rw [hB]; rintro e w' ⟨rfl, hw⟩; obtain rfl := hw.symm; clear hw)
        go_roundw
        case rel => exact ⟨k + 1, va, vc, by rw [HE.out], by simp, by omega, by rw [HE.out]; exact ho, h0, hs, hb⟩
        case measure => simp [intOf]; omega
      · have HE : Hid (fls (k + 1) m = fls k m ++ [(k : Int)]) := fls_yes hB
        obtain ⟨M, hM⟩ : ∃ M, fls k m = M := ⟨_, rfl⟩
        rw [hM] at ho HE ll ⊢
        clear hM
        go_wp2_with (first | (go_at_call 71; refine (l12Has_any m k hm (by omega) _).mono ?_; rw [hB]; rintro e w' ⟨rfl, hw⟩; obtain rfl := hw.symm; clear hw) | (at_builtin; refine app_i _ b1 _ M (k : Int) _ _ rfl rfl rfl rfl ho (by omega) hs ?_; intro a' c' w2 ho2 hg))
        go_roundw
        case rel => exact ⟨k + 1, a', c', by rw [HE.out, List.length_append]; rfl, by simp, by omega, by rw [HE.out]; exact ho2, h0.grown hg (fun e => by have := (ho.lt b0 e.symm).1; omega), Nat.le_trans hs hg.size, hb.grown hg hb.size (fun j hj => Nat.le_trans lb1 (ho.lt j hj).1)⟩
        case measure => simp [intOf]; omega
    · have d : decide ((k : Int) < (n : Int)) = false := decide_eq_false (by omega)
      have e : k = n := by omega
      subst e
      have HO : Hid (OwI wr w.heap.size (.slice va (fls k m).length vc) (fls k m)) := ho.base lb1
      clear ho ll
      go_wp2
      go_ret
      exact ⟨_, rfl, HO.out, hb⟩
theorem wrap_pow {q : Nat} (hq : q < 12) : wrap64 ((2 : Int) ^ q) = (2 : Int) ^ q := by
  have ep := p12I hq
  generalize (2 : Int) ^ q = z at *
  unfold wrap64
  omega
theorem or_pow {M q : Nat} (hM : M < 4096) (hq : q < 12) : bits BinOp.or IntKind.i64 (M : Int) ((2 : Int) ^ q) = ((M ||| 2 ^ q : Nat) : Int) := by
  rw [(p12I hq).1]
  exact or_i64 (lt62 hM) (lt62 (by have := p12 hq; omega))
end Go.Proofs.Ythinefjakimccaa
