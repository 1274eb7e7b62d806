/-
  Zones: the floors that some have, that two have (the model).
-/
import Derived.Test.YtnpnlckdggakmaaZonZ
namespace Go.Proofs.Ytnpnlckdggakmaa
open Go.RowKit Pl
set_option linter.unusedSimpArgs false
set_option linter.unusedVariables false

/-- What the zones that are right tell. -/
def Hs.cvV (h : Hs) (l : List Int) : Int := if h.znK l = 0 then ((onceN (natL l) : Nat) : Int) else 0
def Hs.shV (h : Hs) (l : List Int) : Int := if h.znK l = 0 then (((twoN (natL l)).2 : Nat) : Int) else 0
theorem natL_take {l : List Int} {i M : Nat} (hx : l[i]? = some (M : Int)) : natL (l.take (i + 1)) = natL (l.take i) ++ [M] := by
  have hi : i < l.length := (List.getElem?_eq_some_iff.1 hx).1
  have e : l[i] = (M : Int) := (List.getElem?_eq_some_iff.1 hx).2
  unfold natL
  rw [List.take_succ_eq_append_getElem hi, e, List.map_append]
  rfl
theorem twoN_lt {zs : List Nat} (h : ∀ z ∈ zs, z < 4096) : (twoN zs).1 < 4096 ∧ (twoN zs).2 < 4096 := by
  have key : ∀ f, 12 ≤ f → cntZ zs f = 0 := by
    intro f hf
    unfold cntZ
    rw [List.countP_eq_zero]
    intro z hz
    rw [bit_lt (n := 12) (h z hz) hf]
    decide
  constructor
  · have z : (twoN zs).1 < 2 ^ 12 := by
      apply Nat.lt_pow_two_of_testBit
      intro i hi
      rw [(two_bit zs i).1, key i hi]
      rfl
    exact z
  · have z : (twoN zs).2 < 2 ^ 12 := by
      apply Nat.lt_pow_two_of_testBit
      intro i hi
      rw [(two_bit zs i).2, key i hi]
      rfl
    exact z
theorem natL_lt {h : Hs} {l : List Int} (e : h.znK l = 0) {k : Nat} : ∀ z ∈ natL (l.take k), z < 4096 := by
  intro z hz
  unfold natL at hz
  obtain ⟨x, hx, rfl⟩ := List.mem_map.1 hz
  obtain ⟨M, hM, -, h2, -⟩ := zone_nat e (List.mem_of_mem_take hx)
  rw [hM, Int.toNat_natCast]
  exact h2
set_option maxRecDepth 20000 in
set_option maxHeartbeats 16000000 in
theorem specCover_any (h : Hs) (l : List Int) (a : Option Addr) (cap : Nat) (hl : l.length ≤ 1048576) (w : World) (hI : IIn w a l) :
    Calls Try.prog 22 #[.agg #[.int .i64 h.fl, .int .i64 h.gp, .int .i64 h.ln, .int .i64 h.rf, .int .i64 h.sp, .int .i64 h.pu, .int .i64 h.br, .int .i64 h.dr, .int .i64 h.lv, .int .i64 h.dO, .int .i64 h.ld, .int .i64 h.qu], .slice a l.length cap] w fun e w' => e = .returned (.agg #[.int .i64 (h.znK l), .int .i64 (Hs.cvV h l)]) ∧ Below w.heap.size w w' := by
  have HI : Hid (IIn w a l) := hI
  clear hI
  obtain ⟨K, hK⟩ : ∃ K, h.znK l = K := ⟨_, rfl⟩
  obtain ⟨V, hV⟩ : ∃ V, Hs.cvV h l = V := ⟨_, rfl⟩
  rw [hK, hV]
  have HK0 : Hid (h.znK l = K) := hK
  have HV0 : Hid (Hs.cvV h l = V) := hV
  clear hK hV
  obtain ⟨b0, hb0⟩ : ∃ b0, b0 = w.heap.size := ⟨_, rfl⟩
  obtain ⟨b1, hb1⟩ : ∃ b1, b1 = b0 + 1 := ⟨_, rfl⟩
  obtain ⟨W0, hW0⟩ : ∃ W0, W0 = (w.alloc (.cells #[.int .i64 h.fl, .int .i64 h.gp, .int .i64 h.ln, .int .i64 h.rf, .int .i64 h.sp, .int .i64 h.pu, .int .i64 h.br, .int .i64 h.dr, .int .i64 h.lv, .int .i64 h.dO, .int .i64 h.ld, .int .i64 h.qu] 25)).alloc (.cells #[.int .i64 0, .int .i64 0] 33) := ⟨_, rfl⟩
  have F0 : Hid (Blk W0 b0 [.int .i64 h.fl, .int .i64 h.gp, .int .i64 h.ln, .int .i64 h.rf, .int .i64 h.sp, .int .i64 h.pu, .int .i64 h.br, .int .i64 h.dr, .int .i64 h.lv, .int .i64 h.dO, .int .i64 h.ld, .int .i64 h.qu]) := by rw [hW0]; exact (Blk.at_ w #[.int .i64 h.fl, .int .i64 h.gp, .int .i64 h.ln, .int .i64 h.rf, .int .i64 h.sp, .int .i64 h.pu, .int .i64 h.br, .int .i64 h.dr, .int .i64 h.lv, .int .i64 h.dO, .int .i64 h.ld, .int .i64 h.qu] _ _ hb0).alloc _
  have F1 : Hid (Blk W0 b1 [.int .i64 0, .int .i64 0]) := by rw [hW0]; exact Blk.at_ _ #[.int .i64 0, .int .i64 0] _ _ (by simp; omega)
  have FB : Hid (Below w.heap.size w W0) := by rw [hW0]; exact ((Below.refl _ _).alloc (Nat.le_refl _) _).alloc (by simp) _
  have leb1 : w.heap.size ≤ b1 := by omega
  go_enter Try.func22, Try.ntmps22
  go_upto_region 1 with fail
  rw [← hb0, ← hb1, ← hW0]
  clear hb0 hb1 hW0
  go_upto_region 2 with (first | (refine load_blk 25 _ Try.underlying25 (by kernel_rfl) F0.out rfl rfl rfl ?_) | (go_at_call 54; refine (specZones_any h l a cap hl _ (HI.out.below FB.out)).mono ?_; rw [HK0.out]; rintro e w1 ⟨rfl, hb⟩; have F0 : Hid (Blk w1 b0 [.int .i64 h.fl, .int .i64 h.gp, .int .i64 h.ln, .int .i64 h.rf, .int .i64 h.sp, .int .i64 h.pu, .int .i64 h.br, .int .i64 h.dr, .int .i64 h.lv, .int .i64 h.dO, .int .i64 h.ld, .int .i64 h.qu]) := F0.out.below hb F0.out.lt; have F1 : Hid (Blk w1 b1 [.int .i64 0, .int .i64 0]) := F1.out.below hb F1.out.lt; have FB : Hid (Below w.heap.size w w1) := FB.out.trans (hb.mono FB.out.size); clear hb))
  by_cases hz : K = 0
  case neg =>
    have hn : (K != 0) = true := by simpa using hz
    have HV : Hid ((0 : Int) = V) := by show _ = V; rw [← HV0.out]; unfold Hs.cvV; rw [HK0.out, if_neg hz]
    go_wp2_with (refine store_blk [.int .i64 (K), .int .i64 (0)] 33 _ _ (by kernel_rfl) (by kernel_rfl) (by kernel_rfl) F1.out rfl rfl rfl rfl ?_)
    exact bodyPost_ret (v := .agg #[.int .i64 (K), .int .i64 (0)]) ((F1.out.row [.int .i64 (K), .int .i64 (0)]).res _ Try.results22 Try.underlying33 (by kernel_rfl) rfl) rfl ⟨ret_pr rfl HV.out, below_row FB.out leb1 _⟩
  case pos =>
  subst hz
  go_wp2_with fail
  go_loopw [6, 7] (fun mm ii wr => ∃ i : Nat, mm = .int .i64 ((onceN (natL (l.take i)) : Nat) : Int) ∧ ii = .int .i64 (i : Int) ∧ i ≤ l.length ∧ Blk wr b1 [.int .i64 0, .int .i64 0] ∧ Below w.heap.size w wr) (fun _ ii _ => l.length - (intOf ii).toNat)
  case atStart => exact ⟨0, rfl, rfl, by omega, F1.out, FB.out⟩
  case round =>
    obtain ⟨i, rfl, rfl, hi, hf1, hb⟩ := hrel
    have F1 : Hid (Blk wr b1 [.int .i64 0, .int .i64 0]) := hf1
    have FB : Hid (Below w.heap.size w wr) := hb
    clear hf1 hb
    obtain ⟨lo, lt⟩ := twoN_lt (natL_lt HK0.out (k := i))
    by_cases hlt : i < l.length
    · obtain ⟨x, hx⟩ : ∃ x, l[i]? = some x := ⟨_, List.getElem?_eq_getElem hlt⟩
      obtain ⟨M, hM, -, hM2, -⟩ := zone_nat HK0.out (List.mem_of_getElem? hx)
      subst hM
      have HX : Hid (natL (l.take (i + 1)) = natL (l.take i) ++ [M]) := natL_take hx
      rcases HI.out with h0 | ⟨g, rfl, hg, hc⟩
      · rw [h0] at hlt; simp at hlt
      have c0 := (FB.out.cell (p := ⟨g, i, none⟩) hg).trans (hc i _ hx)
      clear hx hc
      rw [← once_two] at lo
      have HS : Hid (onceN (natL (l.take (i + 1))) = onceN (natL (l.take i)) ||| M) := by show _ = _; rw [HX.out, onceN_snoc]
      obtain ⟨S, hS⟩ : ∃ S, onceN (natL (l.take i)) = S := ⟨_, rfl⟩
      rw [hS] at HS lo ⊢
      have eo := or_i64 (lt62 lo) (lt62 hM2)
      obtain ⟨S1, hS1⟩ : ∃ S1, S ||| M = S1 := ⟨_, rfl⟩
      rw [hS1] at HS eo
      clear hS hS1 lt
      go_wp2_with fail
      go_roundw
      case rel => exact ⟨i + 1, by rw [HS.out], by simp, by omega, F1.out, FB.out⟩
      case measure => simp [intOf]; omega
    · have e : i = l.length := by omega
      subst e
      have HM : Hid (((onceN (natL (l.take l.length)) : Nat) : Int) = V) := by show _ = V; rw [← HV0.out]; unfold Hs.cvV; rw [HK0.out, if_pos rfl, List.take_length]
      rw [HM.out]
      clear lo lt
      go_wp2_with (refine store_blk [.int .i64 (0), .int .i64 (V)] 33 _ _ (by kernel_rfl) (by kernel_rfl) (by kernel_rfl) F1.out rfl rfl rfl rfl ?_)
      exact bodyPost_ret (v := .agg #[.int .i64 (0), .int .i64 (V)]) ((F1.out.row [.int .i64 (0), .int .i64 (V)]).res _ Try.results22 Try.underlying33 (by kernel_rfl) rfl) rfl ⟨rfl, below_row FB.out leb1 _⟩
set_option maxRecDepth 20000 in
set_option maxHeartbeats 16000000 in
theorem specShared_any (h : Hs) (l : List Int) (a : Option Addr) (cap : Nat) (hl : l.length ≤ 1048576) (w : World) (hI : IIn w a l) :
    Calls Try.prog 27 #[.agg #[.int .i64 h.fl, .int .i64 h.gp, .int .i64 h.ln, .int .i64 h.rf, .int .i64 h.sp, .int .i64 h.pu, .int .i64 h.br, .int .i64 h.dr, .int .i64 h.lv, .int .i64 h.dO, .int .i64 h.ld, .int .i64 h.qu], .slice a l.length cap] w fun e w' => e = .returned (.agg #[.int .i64 (h.znK l), .int .i64 (Hs.shV h l)]) ∧ Below w.heap.size w w' := by
  have HI : Hid (IIn w a l) := hI
  clear hI
  obtain ⟨K, hK⟩ : ∃ K, h.znK l = K := ⟨_, rfl⟩
  obtain ⟨V, hV⟩ : ∃ V, Hs.shV h l = V := ⟨_, rfl⟩
  rw [hK, hV]
  have HK0 : Hid (h.znK l = K) := hK
  have HV0 : Hid (Hs.shV h l = V) := hV
  clear hK hV
  obtain ⟨b0, hb0⟩ : ∃ b0, b0 = w.heap.size := ⟨_, rfl⟩
  obtain ⟨b1, hb1⟩ : ∃ b1, b1 = b0 + 1 := ⟨_, rfl⟩
  obtain ⟨W0, hW0⟩ : ∃ W0, W0 = (w.alloc (.cells #[.int .i64 h.fl, .int .i64 h.gp, .int .i64 h.ln, .int .i64 h.rf, .int .i64 h.sp, .int .i64 h.pu, .int .i64 h.br, .int .i64 h.dr, .int .i64 h.lv, .int .i64 h.dO, .int .i64 h.ld, .int .i64 h.qu] 25)).alloc (.cells #[.int .i64 0, .int .i64 0] 33) := ⟨_, rfl⟩
  have F0 : Hid (Blk W0 b0 [.int .i64 h.fl, .int .i64 h.gp, .int .i64 h.ln, .int .i64 h.rf, .int .i64 h.sp, .int .i64 h.pu, .int .i64 h.br, .int .i64 h.dr, .int .i64 h.lv, .int .i64 h.dO, .int .i64 h.ld, .int .i64 h.qu]) := by rw [hW0]; exact (Blk.at_ w #[.int .i64 h.fl, .int .i64 h.gp, .int .i64 h.ln, .int .i64 h.rf, .int .i64 h.sp, .int .i64 h.pu, .int .i64 h.br, .int .i64 h.dr, .int .i64 h.lv, .int .i64 h.dO, .int .i64 h.ld, .int .i64 h.qu] _ _ hb0).alloc _
  have F1 : Hid (Blk W0 b1 [.int .i64 0, .int .i64 0]) := by rw [hW0]; exact Blk.at_ _ #[.int .i64 0, .int .i64 0] _ _ (by simp; omega)
  have FB : Hid (Below w.heap.size w W0) := by rw [hW0]; exact ((Below.refl _ _).alloc (Nat.le_refl _) _).alloc (by simp) _
  have leb1 : w.heap.size ≤ b1 := by omega
  go_enter Try.func27, Try.ntmps27
  go_upto_region 1 with fail
  rw [← hb0, ← hb1, ← hW0]
  clear hb0 hb1 hW0
  go_upto_region 2 with (first | (refine load_blk 25 _ Try.underlying25 (by kernel_rfl) F0.out rfl rfl rfl ?_) | (go_at_call 54; refine (specZones_any h l a cap hl _ (HI.out.below FB.out)).mono ?_; rw [HK0.out]; rintro e w1 ⟨rfl, hb⟩; have F0 : Hid (Blk w1 b0 [.int .i64 h.fl, .int .i64 h.gp, .int .i64 h.ln, .int .i64 h.rf, .int .i64 h.sp, .int .i64 h.pu, .int .i64 h.br, .int .i64 h.dr, .int .i64 h.lv, .int .i64 h.dO, .int .i64 h.ld, .int .i64 h.qu]) := F0.out.below hb F0.out.lt; have F1 : Hid (Blk w1 b1 [.int .i64 0, .int .i64 0]) := F1.out.below hb F1.out.lt; have FB : Hid (Below w.heap.size w w1) := FB.out.trans (hb.mono FB.out.size); clear hb))
  by_cases hz : K = 0
  case neg =>
    have hn : (K != 0) = true := by simpa using hz
    have HV : Hid ((0 : Int) = V) := by show _ = V; rw [← HV0.out]; unfold Hs.shV; rw [HK0.out, if_neg hz]
    go_wp2_with (refine store_blk [.int .i64 (K), .int .i64 (0)] 33 _ _ (by kernel_rfl) (by kernel_rfl) (by kernel_rfl) F1.out rfl rfl rfl rfl ?_)
    exact bodyPost_ret (v := .agg #[.int .i64 (K), .int .i64 (0)]) ((F1.out.row [.int .i64 (K), .int .i64 (0)]).res _ Try.results27 Try.underlying33 (by kernel_rfl) rfl) rfl ⟨ret_pr rfl HV.out, below_row FB.out leb1 _⟩
  case pos =>
  subst hz
  go_wp2_with fail
  go_loopw [6, 7, 8] (fun oo tt ii wr => ∃ i : Nat, oo = .int .i64 (((twoN (natL (l.take i))).1 : Nat) : Int) ∧ tt = .int .i64 (((twoN (natL (l.take i))).2 : Nat) : Int) ∧ ii = .int .i64 (i : Int) ∧ i ≤ l.length ∧ Blk wr b1 [.int .i64 0, .int .i64 0] ∧ Below w.heap.size w wr) (fun _ _ ii _ => l.length - (intOf ii).toNat)
  case atStart => exact ⟨0, rfl, rfl, rfl, by omega, F1.out, FB.out⟩
  case round =>
    obtain ⟨i, rfl, rfl, rfl, hi, hf1, hb⟩ := hrel
    have F1 : Hid (Blk wr b1 [.int .i64 0, .int .i64 0]) := hf1
    have FB : Hid (Below w.heap.size w wr) := hb
    clear hf1 hb
    obtain ⟨lo, lt⟩ := twoN_lt (natL_lt HK0.out (k := i))
    by_cases hlt : i < l.length
    · obtain ⟨x, hx⟩ : ∃ x, l[i]? = some x := ⟨_, List.getElem?_eq_getElem hlt⟩
      obtain ⟨M, hM, -, hM2, -⟩ := zone_nat HK0.out (List.mem_of_getElem? hx)
      subst hM
      have HX : Hid (natL (l.take (i + 1)) = natL (l.take i) ++ [M]) := natL_take hx
      rcases HI.out with h0 | ⟨g, rfl, hg, hc⟩
      · rw [h0] at hlt; simp at hlt
      have c0 := (FB.out.cell (p := ⟨g, i, none⟩) hg).trans (hc i _ hx)
      clear hx hc
      have HS : Hid ((twoN (natL (l.take (i + 1)))).1 = (twoN (natL (l.take i))).1 ||| M) := by show _ = _; rw [HX.out, twoN_snoc]
      have HR : Hid ((twoN (natL (l.take (i + 1)))).2 = (twoN (natL (l.take i))).2 ||| ((twoN (natL (l.take i))).1 &&& M)) := by show _ = _; rw [HX.out, twoN_snoc]
      obtain ⟨S, hS⟩ : ∃ S, (twoN (natL (l.take i))).1 = S := ⟨_, rfl⟩
      obtain ⟨R, hR⟩ : ∃ R, (twoN (natL (l.take i))).2 = R := ⟨_, rfl⟩
      rw [hS] at HS HR lo ⊢
      rw [hR] at HR lt ⊢
      have eo := or_i64 (lt62 lo) (lt62 hM2)
      have ea := and_i64 (lt62 lo) (lt62 hM2)
      have la : S &&& M < 4096 := Nat.lt_of_le_of_lt Nat.and_le_left lo
      have eb := or_i64 (lt62 lt) (lt62 la)
      obtain ⟨S1, hS1⟩ : ∃ S1, S ||| M = S1 := ⟨_, rfl⟩
      obtain ⟨A1, hA1⟩ : ∃ A1, S &&& M = A1 := ⟨_, rfl⟩
      rw [hS1] at HS eo
      rw [hA1] at HR ea eb
      obtain ⟨R1, hR1⟩ : ∃ R1, R ||| A1 = R1 := ⟨_, rfl⟩
      rw [hR1] at HR eb
      clear hS hR hS1 hA1 hR1 la
      go_wp2_with fail
      go_roundw
      case rel => exact ⟨i + 1, by rw [HS.out], by rw [HR.out], by simp, by omega, F1.out, FB.out⟩
      case measure => simp [intOf]; omega
    · have e : i = l.length := by omega
      subst e
      have HM : Hid ((((twoN (natL (l.take l.length))).2 : Nat) : Int) = V) := by show _ = V; rw [← HV0.out]; unfold Hs.shV; rw [HK0.out, if_pos rfl, List.take_length]
      rw [HM.out]
      clear lo lt
      go_wp2_with (refine store_blk [.int .i64 (0), .int .i64 (V)] 33 _ _ (by kernel_rfl) (by kernel_rfl) (by kernel_rfl) F1.out rfl rfl rfl rfl ?_)
      exact bodyPost_ret (v := .agg #[.int .i64 (0), .int .i64 (V)]) ((F1.out.row [.int .i64 (0), .int .i64 (V)]).res _ Try.results27 Try.underlying33 (by kernel_rfl) rfl) rfl ⟨rfl, below_row FB.out leb1 _⟩
end Go.Proofs.Ytnpnlckdggakmaa
