/-
  Zones that are split: they serve every floor, and each car waits in its own (plain).
-/
import Derived.Test.YtnpnlckdggakmaaZonS
import Derived.Test.YtnpnlckdggakmaaZonN
import Derived.Test.YtnpnlckdggakmaaZonV
import Derived.Test.YtnpnlckdggakmaaZonM
namespace Go.Proofs.Ytnpnlckdggakmaa
open Go.RowKit Pl
set_option linter.unusedSimpArgs false
set_option linter.unusedVariables false

theorem upQ_all {n c : Nat} (hc : 1 ≤ c) : n - 1 ≤ upQ (n - 1) c * c := by
  unfold upQ
  have := Nat.div_add_mod (n - 1 + c - 1) c
  have := Nat.mod_lt (n - 1 + c - 1) (show 0 < c by omega)
  rw [Nat.mul_comm ((n - 1 + c - 1) / c) c]
  omega
theorem splitL_len (n c : Nat) : (splitL n c).length = c := by simp [splitL]
theorem splitL_get {n c k : Nat} (h : k < c) : (splitL n c)[k]? = some ((zoneM n (upQ (n - 1) c) k : Nat) : Int) := by simp [splitL, h]
theorem splitL_mem {n c : Nat} {x : Int} (h : x ∈ splitL n c) : ∃ k, k < c ∧ x = ((zoneM n (upQ (n - 1) c) k : Nat) : Int) := by
  unfold splitL at h
  obtain ⟨k, hk, e⟩ := List.mem_map.1 h
  exact ⟨k, List.mem_range.1 hk, e.symm⟩
theorem zone_zero {n q k : Nat} (hn : 2 ≤ n) (hq : 1 ≤ q) : (zoneM n q k).testBit 0 = true := (zoneM_bit hn hq 0).2 (Or.inl rfl)
theorem zone_some {n c f : Nat} (hn : 2 ≤ n) (hc : 1 ≤ c) (hf : f < n) : ∃ k, k < c ∧ (zoneM n (upQ (n - 1) c) k).testBit f = true := by
  have hq := upQ_pos hn hc
  by_cases h0 : f = 0
  · exact ⟨0, by omega, by rw [h0]; exact zone_zero hn hq⟩
  · have ha := upQ_all (n := n) hc
    obtain ⟨q, hqq⟩ : ∃ q, upQ (n - 1) c = q := ⟨_, rfl⟩
    rw [hqq] at hq ha ⊢
    have hd := Nat.div_add_mod (f - 1) q
    have hm := Nat.mod_lt (f - 1) (show 0 < q by omega)
    refine ⟨(f - 1) / q, ?_, (zoneM_bit hn hq f).2 (Or.inr ⟨hf, Or.inl ?_⟩)⟩
    · refine (Nat.div_lt_iff_lt_mul (by omega)).2 ?_
      rw [Nat.mul_comm] at ha; omega
    · rw [Nat.mul_comm] at hd
      generalize (f - 1) / q * q = z at *
      omega
theorem natL_split (n c : Nat) : natL (splitL n c) = (List.range c).map (fun k => zoneM n (upQ (n - 1) c) k) := by
  unfold natL splitL
  rw [List.map_map]
  exact List.map_congr_left fun k _ => by simp
theorem cnt_pos {zs : List Nat} {f : Nat} : 1 ≤ cntZ zs f ↔ ∃ z ∈ zs, z.testBit f = true := by
  unfold cntZ
  exact List.countP_pos_iff
theorem once_split {n c : Nat} (hn : 2 ≤ n) (hc : 1 ≤ c) : onceN (natL (splitL n c)) = 2 ^ n - 1 := by
  apply Nat.eq_of_testBit_eq
  intro f
  rw [once_bit, Nat.testBit_two_pow_sub_one, natL_split]
  refine decide_eq_decide.2 ?_
  rw [cnt_pos]
  constructor
  · rintro ⟨z, hz, hb⟩
    obtain ⟨k, hk, rfl⟩ := List.mem_map.1 hz
    by_cases hf : f < n
    · exact hf
    · rw [bit_lt (zoneM_lt hn) (by omega)] at hb
      cases hb
  · intro hf
    obtain ⟨k, hk, hb⟩ := zone_some hn hc hf
    exact ⟨_, List.mem_map.2 ⟨k, List.mem_range.2 hk, rfl⟩, hb⟩
theorem two_one {n : Nat} (hn : 2 ≤ n) : (twoN (natL (splitL n 1))).2 = 0 := by
  apply Nat.eq_of_testBit_eq
  intro f
  rw [(two_bit _ f).2, Nat.zero_testBit]
  refine decide_eq_false ?_
  have : cntZ (natL (splitL n 1)) f ≤ (natL (splitL n 1)).length := List.countP_le_length
  rw [natL_split, List.length_map, List.length_range] at this
  rw [natL_split]; omega
theorem two_more {n c : Nat} (hn : 2 ≤ n) (hc : 2 ≤ c) : (twoN (natL (splitL n c))).2 ≠ 0 := by
  intro e
  have q := (two_bit (natL (splitL n c)) 0).2
  rw [e, Nat.zero_testBit] at q
  have h2 : cntZ (natL (splitL n c)) 0 = c := by
    unfold cntZ
    rw [natL_split, List.countP_eq_length.2]
    · simp
    · intro z hz
      obtain ⟨k, hk, rfl⟩ := List.mem_map.1 hz
      exact zone_zero hn (upQ_pos hn (by omega))
  rw [h2, decide_eq_true hc] at q
  cases q
theorem two_once (zs : List Nat) (f : Nat) (h : (twoN zs).2.testBit f = true) : (onceN zs).testBit f = true := by
  rw [(two_bit zs f).2] at h
  rw [once_bit]
  have := of_decide_eq_true h
  exact decide_eq_true (by omega)
theorem split_zones {h : Hs} (hf : h.fault = 0) {c : Nat} (c1 : 1 ≤ c) (c6 : c ≤ 6) : h.znK (splitL h.fl.toNat c) = 0 := by
  have fb := fl_of hf
  have hn : 2 ≤ h.fl.toNat := by omega
  have hq := upQ_pos (c := c) hn c1
  have e : (2 : Int) ^ h.fl.toNat = ((2 ^ h.fl.toNat : Nat) : Int) := by simp
  unfold Hs.znK
  rw [if_pos hf, if_pos (by rw [splitL_len]; omega), if_pos, if_neg]
  · intro q
    unfold hasI at q
    obtain ⟨x, hx, hx0⟩ := List.any_eq_true.1 q
    obtain ⟨k, hk, rfl⟩ := splitL_mem hx
    have z : zoneM h.fl.toNat (upQ (h.fl.toNat - 1) c) k = 0 := by have := beq_iff_eq.1 hx0; omega
    have b := zone_zero (k := k) hn hq
    rw [z, Nat.zero_testBit] at b
    cases b
  · unfold Hs.allR
    refine List.all_eq_true.2 fun x hx => ?_
    obtain ⟨k, hk, rfl⟩ := splitL_mem hx
    have l := zoneM_lt (q := upQ (h.fl.toNat - 1) c) (k := k) hn
    unfold Hs.right
    rw [e]
    exact inB_yes (by omega) (by omega)
theorem split_served {h : Hs} (hf : h.fault = 0) {c f : Nat} (c1 : 1 ≤ c) (c6 : c ≤ 6) (f1 : 1 ≤ f) (f2 : f < h.fl.toNat) : (h.svL (splitL h.fl.toNat c) 0 (f : Int)).length ≠ 0 := by
  have fb := fl_of hf
  have hn : 2 ≤ h.fl.toNat := by omega
  have hq := upQ_pos (c := c) hn c1
  have hz := split_zones hf c1 c6
  have hc : Hs.call h 0 (f : Int) = 0 := by
    unfold Hs.call Hs.callC
    rw [if_pos hf, if_pos ⟨inB_yes (by omega) (by omega), inB_yes (by omega) (by omega)⟩, if_neg (by omega)]
  have hk : h.svK (splitL h.fl.toNat c) 0 (f : Int) = 0 := by unfold Hs.svK; rw [if_pos hz, hc]
  unfold Hs.svL
  rw [if_pos hk]
  obtain ⟨k, hk1, hk2⟩ := zone_some hn c1 f2
  intro e
  have hm : (k : Int) ∈ plP (splitL h.fl.toNat c) (0 : Int).toNat (f : Int).toNat (splitL h.fl.toNat c).length := by
    unfold plP
    refine List.mem_map.2 ⟨k, List.mem_filter.2 ⟨List.mem_range.2 (by rw [splitL_len]; exact hk1), ?_⟩, rfl⟩
    rw [List.getD_eq_getElem?_getD, splitL_get hk1]
    unfold both
    simp only [Option.getD_some, Int.toNat_natCast, Int.toNat_zero]
    rw [zone_zero hn hq, hk2]; rfl
  rw [List.length_eq_zero_iff.1 e] at hm
  cases hm
theorem pkP_get (l : List Int) : ∀ (k i : Nat), i < k → (pkP l k)[i]? = some (parkF (l.getD i 0).toNat (maskN (pkP l i)))
  | 0, i, h => by omega
  | k + 1, i, h => by
    show (pkP l k ++ [parkF (l.getD k 0).toNat (maskN (pkP l k))])[i]? = _
    by_cases e : i < k
    · rw [List.getElem?_append_left (by rw [pkP_len]; exact e)]
      exact pkP_get l k i e
    · have : i = k := by omega
      subst this
      rw [List.getElem?_append_right (by rw [pkP_len]; exact Nat.le_refl _), pkP_len]
      simp
/-- Where the car of a zone waits. -/
theorem split_parks {h : Hs} (hf : h.fault = 0) {c k : Nat} (c1 : 1 ≤ c) (c6 : c ≤ 6) (hk : k < c) : ∃ p : Nat, (Hs.pkL h (splitL h.fl.toNat c))[k]? = some (p : Int) ∧ p < 12 ∧ (zoneM h.fl.toNat (upQ (h.fl.toNat - 1) c) k).testBit p = true ∧ zoneM h.fl.toNat (upQ (h.fl.toNat - 1) c) k < 4096 := by
  have fb := fl_of hf
  have hn : 2 ≤ h.fl.toNat := by omega
  have hq := upQ_pos (c := c) hn c1
  have hz := split_zones hf c1 c6
  have l := zoneM_lt (q := upQ (h.fl.toNat - 1) c) (k := k) hn
  have l2 := p12n (n := h.fl.toNat) (by omega)
  have ne : zoneM h.fl.toNat (upQ (h.fl.toNat - 1) c) k ≠ 0 := fun e => by have b := zone_zero (k := k) hn hq; rw [e, Nat.zero_testBit] at b; cases b
  unfold Hs.pkL
  rw [if_pos hz, pkP_get _ _ _ (by rw [splitL_len]; exact hk), List.getD_eq_getElem?_getD, splitL_get hk]
  simp only [Option.getD_some, Int.toNat_natCast]
  obtain ⟨p, e, p12, pb⟩ := mem_fls.1 (parkF_mem (maskN (pkP (splitL h.fl.toNat c) k)) (by omega) ne)
  exact ⟨p, by rw [e], p12, pb, by omega⟩
theorem parks_len {h : Hs} (hf : h.fault = 0) {c : Nat} (c1 : 1 ≤ c) (c6 : c ≤ 6) : (Hs.pkL h (splitL h.fl.toNat c)).length = c := by
  unfold Hs.pkL
  rw [if_pos (split_zones hf c1 c6), pkP_len, splitL_len]
theorem spK_zero {h : Hs} {cc : Int} (e : h.spK cc = 0) : h.fault = 0 ∧ ∃ c : Nat, cc = (c : Int) ∧ 1 ≤ c ∧ c ≤ 6 ∧ h.spL cc = splitL h.fl.toNat c := by
  have e0 := e
  unfold Hs.spK at e
  by_cases hf : h.fault = 0
  · rw [if_pos hf] at e
    cases hc : inB cc 1 6 with
    | false => rw [hc] at e; cases e
    | true =>
      have b := inB_iff.1 hc
      refine ⟨hf, cc.toNat, by omega, by omega, by omega, ?_⟩
      unfold Hs.spL
      rw [if_pos e0]
  · rw [if_neg hf] at e; exact absurd e hf
theorem andn_zero {a b : Nat} (ha : a < 4096) (hb : b < 4096) (h : ∀ f, a.testBit f = true → b.testBit f = true) : bits BinOp.andNot IntKind.i64 (a : Int) (b : Int) = 0 := by
  have q : (BitVec.ofNat 64 a &&& ~~~ BitVec.ofNat 64 b).toNat = 0 := by
    have z : BitVec.ofNat 64 a &&& ~~~ BitVec.ofNat 64 b = 0#64 := by
      apply BitVec.eq_of_getLsbD_eq
      intro i hi
      rw [BitVec.getLsbD_and, BitVec.getLsbD_not, BitVec.getLsbD_ofNat, BitVec.getLsbD_ofNat]
      have hi2 : decide (i < 64) = true := decide_eq_true hi
      simp only [hi2, Bool.true_and, BitVec.getLsbD_zero]
      cases ca : a.testBit i with
      | false => rfl
      | true => rw [h i ca]; rfl
    rw [z]; rfl
  simp [bits, IntKind.wrap, IntKind.bits, IntKind.signed]
  refine Eq.trans (congrArg (fun z : Nat => if 9223372036854775808 ≤ (z : Int) % 18446744073709551616 then (z : Int) % 18446744073709551616 - 18446744073709551616 else (z : Int) % 18446744073709551616) q) ?_
  simp
end Go.Proofs.Ytnpnlckdggakmaa
