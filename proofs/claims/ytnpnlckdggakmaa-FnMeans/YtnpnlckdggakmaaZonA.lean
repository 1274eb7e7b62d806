/-
  Zones: bits of a mask, floors of a mask (the model).
-/
import Derived.Test.YtnpnlckdggakmaaZonQ
import Derived.Test.YtnpnlckdggakmaaZonC
import Derived.Test.YtnpnlckdggakmaaHouseF
import Derived.Test.YtnpnlckdggakmaaHouseP
import Derived.Test.YtnpnlckdggakmaaInts
import Derived.BigGuardPart
import Derived.BigQuiet
import Derived.OwnWalk
namespace Go.Proofs.Ytnpnlckdggakmaa
open Go.RowKit Pl
set_option linter.unusedSimpArgs false
set_option linter.unusedVariables false

set_option maxRecDepth 20000 in
set_option maxHeartbeats 16000000 in
theorem l12Has_any (m f : Nat) (hm : m < 4096) (hf : f < 12) (w : World) :
    Calls Try.prog 73 #[.int .i64 (m : Int), .int .i64 (f : Int)] w fun e w' => e = .returned (.bool (m.testBit f)) ∧ w' = w := by
  have ev := and_bit m f hm hf
  have eb := bN_eq m f
  go_enter Try.func73, Try.ntmps73
  go_wp2
  go_ret
  exact ⟨rfl, rfl⟩
theorem pow_fl {h : Hs} (f1 : 2 ≤ h.fl) (f2 : h.fl ≤ 12) : wrap64 (wrap64 (2 ^ h.fl.toNat) - 1) = 2 ^ h.fl.toNat - 1 := by
  have e : (2 : Int) ^ h.fl.toNat = ((2 ^ h.fl.toNat : Nat) : Int) := by simp
  have l : 2 ^ h.fl.toNat ≤ 2 ^ 12 := Nat.pow_le_pow_right (by decide) (by omega)
  rw [e]
  generalize 2 ^ h.fl.toNat = z at *
  unfold wrap64
  omega
set_option maxRecDepth 20000 in
set_option maxHeartbeats 16000000 in
theorem l12Right_any (h : Hs) (m : Int) (f1 : 2 ≤ h.fl) (f2 : h.fl ≤ 12) (w : World) :
    Calls Try.prog 70 #[.agg #[.int .i64 h.fl, .int .i64 h.gp, .int .i64 h.ln, .int .i64 h.rf, .int .i64 h.sp, .int .i64 h.pu, .int .i64 h.br, .int .i64 h.dr, .int .i64 h.lv, .int .i64 h.dO, .int .i64 h.ld, .int .i64 h.qu], .int .i64 m] w fun e w' => e = .returned (.bool (h.right m)) ∧ Below w.heap.size w w' := by
  have FB : Hid (Below w.heap.size w (w.alloc (.cells #[.int .i64 h.fl, .int .i64 h.gp, .int .i64 h.ln, .int .i64 h.rf, .int .i64 h.sp, .int .i64 h.pu, .int .i64 h.br, .int .i64 h.dr, .int .i64 h.lv, .int .i64 h.dO, .int .i64 h.ld, .int .i64 h.qu] 25))) := (Below.refl _ _).alloc (Nat.le_refl _) _
  have ep := pow_fl f1 f2
  go_enter Try.func70, Try.ntmps70
  go_wp2_with (go_at_call 41; refine (l1In_any _ _ _ _).mono ?_; rintro e w' ⟨rfl, hw⟩; obtain rfl := hw.symm; clear hw)
  go_ret
  exact ⟨rfl, FB.out⟩
/-- One number is put behind a row of one's own. -/
theorem app_i {ops : Array Oper} {rest : List Oper} {o : Oper} {act : Act} {Q : Exit → Act → World → Prop} (W : World) (B : Nat) (v : Value) (l : List Int) (x : Int) (s y : Operand) (hgd : o.guard = none) (hop : o.op = Op.call { callee := Callee.builtin Builtin.append, args := #[s, y], argTypes := #[28, 28] })
    (hs : act.eval s = v) (hy : act.eval y = .slice (some ⟨W.heap.size, 0, none⟩) 1 1) (hown : OwI W B v l) (hl : l.length ≤ 1000) (hB : B ≤ W.heap.size)
    (h : ∀ a' c' w', OwI w' B (.slice a' (l ++ [x]).length c') (l ++ [x]) → W.grownBy w' v.ownBlock → wpList Try.prog ops Q rest (act.put o.dst (.slice a' (l ++ [x]).length c')) w') : wpList Try.prog ops Q (o :: rest) act (W.alloc (.cells #[.int .i64 x] 2)) := by
  obtain ⟨i0, hi, hz, hsz, hby⟩ := info_parts info64
  refine wpList_append_own _ hgd s y 28 hop B 2 i0 (.int .i64 0) 1 8 undI64S hi hz hsz hby rfl (by omega) v l.length _ hs (hown.alloc _) ⟨W.heap.size, 0, none⟩ 1 1 [.int .i64 x] hy rfl (one_new W x _) (one_cell x) (by unfold maxLen; omega) (by omega) (by simp; omega) ?_
  intro v1 w1 ho hg hn
  have ho' : OwI w1 B v1 (l ++ [x]) := by
    unfold OwI
    have e : intsV (l ++ [x]) = intsV l ++ [.int .i64 x] := by simp [intsV]
    rw [List.length_append, e]
    exact ho
  obtain ⟨a', c', rfl⟩ := ho'.sl
  exact h a' c' w1 ho' ⟨hg.os, hg.tape, hg.output, Nat.le_trans (by simp) hg.size, fun k hk hne => (hg.block k (by simp; omega) hne).trans (Below.heap_alloc W _ k hk)⟩
theorem own_empty0 (w : World) (B : Nat) (hB : B ≤ w.heap.size) : OwI (w.alloc (.cells #[] 2)) B (.slice (some ⟨w.heap.size, 0, none⟩) 0 0) [] :=
  World.ownsRow_lit (base := B) (e := 2) (size := 1) w #[] 0 hB (by unfold maxLen; omega) rfl
theorem fls_succ (k m : Nat) : fls (k + 1) m = fls k m ++ (if m.testBit k = true then [(k : Int)] else []) := by
  unfold fls
  rw [flsN_succ]
  split <;> simp
theorem fls_yes {k m : Nat} (h : m.testBit k = true) : fls (k + 1) m = fls k m ++ [(k : Int)] := by rw [fls_succ, if_pos h]
theorem fls_no {k m : Nat} (h : m.testBit k = false) : fls (k + 1) m = fls k m := by rw [fls_succ, h]; simp
theorem wrap_pow {q : Nat} (hq : q < 12) : wrap64 ((2 : Int) ^ q) = (2 : Int) ^ q := by
  have ep := p12I hq
  generalize (2 : Int) ^ q = z at *
  unfold wrap64
  omega
theorem or_pow {M q : Nat} (hM : M < 4096) (hq : q < 12) : bits BinOp.or IntKind.i64 (M : Int) ((2 : Int) ^ q) = ((M ||| 2 ^ q : Nat) : Int) := by
  rw [(p12I hq).1]
  exact or_i64 (lt62 hM) (lt62 (by have := p12 hq; omega))
end Go.Proofs.Ytnpnlckdggakmaa
