/-
  The model's texts: digits, a number, a line.
-/
import Derived.Test.YtnfdplfifpmhoaaGreatDoorFmtP
import Derived.Test.YtnfdplfifpmhoaaGreatDoorFnd
import Derived.Laws.IdiomStrings
import Derived.Laws.Concat
import Derived.Deep.RegionHeld3
import Derived.BigGuardPart
namespace Go.Proofs.YtnfdplfifpmhoaaGreatDoor
open Go.RowKit Pl
set_option linter.unusedSimpArgs false
set_option linter.unusedVariables false

theorem cvB {W : World} {g : Nat} (c : Nat) (hc : c < 256) {x : Int} (hx : x = (c : Int)) (h : W.cell? ⟨g, 0, none⟩ = some (.int .u8 x)) : (convert 113 9 (.slice (some ⟨g, 0, none⟩) 1 1)).run Tryz.prog W = .ok (.string ⟨#[UInt8.ofNat c]⟩) W := by
  subst hx
  have r := run_convert_bytes_back (P := Tryz.prog) W 113 9 5 ⟨g, 0, none⟩ 1 [UInt8.ofNat c] Tryz.underlying113 Tryz.underlying5 Tryz.underlying9 (fun j hj => by
    have e : j = 0 := by simpa using hj
    subst e
    rw [show ((⟨g, 0, none⟩ : Addr).add 0) = ⟨g, 0, none⟩ by simp [Addr.add], h]
    simp
    omega)
  simpa using r
theorem ret_str {a b : ByteArray} (h : a = b) : Ending.returned (.string a) = Ending.returned (.string b) := by rw [h]
set_option maxRecDepth 20000 in
set_option maxHeartbeats 16000000 in
theorem l9Digits_any (k : Nat) : ∀ (u : Nat), u < k ∧ u < 18446744073709551616 → ∀ (w : World), Calls Tryz.prog 54 #[.int .u64 u] w fun e w' => e = .returned (.string (dgB u)) ∧ Below w.heap.size w w' := by
  induction k with
  | zero => intro u h; omega
  | succ k ih =>
    intro u h w
    obtain ⟨h1, h2⟩ := h
    by_cases hu : u < 10
    · have hi : ((u : Nat) : Int) < 10 := by omega
      have e1 : IntKind.u64.wrap (48 + (u : Int)) = 48 + (u : Int) := IntWalk.u64_in _ (by omega)
      have e2 : IntKind.u8.wrap (48 + (u : Int)) = 48 + (u : Int) := IntWalk.u8_in _ (by omega)
      have hcv := cvB (W := w.alloc (.cells #[.int .u8 (48 + (u : Int))] 5)) (g := w.heap.size) (48 + u) (by omega) (x := 48 + (u : Int)) (by omega) (by simp)
      obtain ⟨bb, hbb⟩ : ∃ bb, UInt8.ofNat (48 + u) = bb := ⟨_, rfl⟩
      have HE : Hid (dgB u = ⟨#[bb]⟩) := by rw [← hbb]; exact dgB_one hu
      rw [hbb] at hcv
      clear hbb
      go_enter Tryz.func54, Tryz.ntmps54
      go_wp2_with fail
      go_ret
      exact ⟨ret_str HE.out.symm, (Below.refl _ _).alloc (Nat.le_refl _) _⟩
    · have hi : (10 : Int) ≤ ((u : Nat) : Int) := by omega
      obtain ⟨q, hq0⟩ : ∃ q, u / 10 = q := ⟨_, rfl⟩
      obtain ⟨r, hr0⟩ : ∃ r, u % 10 = r := ⟨_, rfl⟩
      have hq : q < k ∧ q < 18446744073709551616 := by omega
      have hs := dgB_size q (by have : (18446744073709551616 : Nat) ≤ 10 ^ 20 := by decide
                                omega)
      have e1 : (u : Int).tdiv 10 = (q : Int) := by rw [Int.tdiv_eq_ediv_of_nonneg (by omega)]; omega
      have ewq : IntKind.u64.wrap (q : Int) = (q : Int) := IntWalk.u64_in _ (by omega)
      have e2 : (u : Int).tmod 10 = (r : Int) := by rw [Int.tmod_eq_emod_of_nonneg (by omega)]; omega
      obtain ⟨cn, hcn⟩ : ∃ cn, 48 + r = cn := ⟨_, rfl⟩
      obtain ⟨c, hcc⟩ : ∃ c, ((cn : Nat) : Int) = c := ⟨_, rfl⟩
      have e3 : IntKind.u64.wrap (48 + (r : Int)) = c := by rw [IntWalk.u64_in _ (by omega)]; omega
      have e4 : IntKind.u8.wrap c = c := IntWalk.u8_in _ (by omega)
      have HCC : Hid (c = (cn : Int)) := hcc.symm
      have HE : Hid (dgB q ++ ⟨#[UInt8.ofNat cn]⟩ = dgB u) := by rw [dgB_more hu, hq0, hr0, hcn]; exact rfl
      have hc : cn < 256 := by omega
      have hs1 : ¬ (9223372036854775807 < (dgB q).size + 1) := by omega
      clear h1 h2 hu hq0 hr0 hcn hs hcc
      have FB : Hid (Below w.heap.size w w) := Below.refl _ _
      go_enter Tryz.func54, Tryz.ntmps54
      go_upto_region 3 with fail
      have FB : Hid (Below w.heap.size w w.drew) := FB.out.drew
      refine wp_region_held_drew (S := (fun _ => True)) (by kernel_rfl) (by (try dsimp only); all_goals trivial) (fun hHeld => ?_)
      obtain ⟨v_1, hw1⟩ : ∃ v_1, v_1 = w.drew := ⟨_, rfl⟩
      have FB : Hid (Below w.heap.size w v_1) := by rw [hw1]; exact FB.out
      rw [← hw1]
      clear hw1
      refine tkz 0 rfl ?_
      refine tkz 1 rfl ?_
      refine tkz 3 rfl ?_
      refine tkz 4 rfl ?_
      refine tkz 5 rfl ?_
      refine tkz 6 rfl ?_
      refine wpAnyH_ready (rs := [2, 7]) (by kernel_rfl) (by simp) ?_
      refine (AllReadyH.cons rfl (fun K hK => ?_) (AllReadyH.cons rfl (fun K hK => ?_) AllReadyH.nil))
      · go_simp
        refine (ih q hq _).mono ?_
        rintro e v_2 ⟨rfl, hb⟩
        have FB : Hid (Below w.heap.size w v_2) := FB.out.trans (hb.mono FB.out.size)
        clear hb
        try dsimp only
        refine hK.out _ _ (by (try dsimp only); all_goals trivial) (fun hHeld => ?_)
        clear hK K
        try simp only [Act.put, List.getElem_toArray, List.getElem_cons_succ, List.getElem_cons_zero, List.setIfInBounds_toArray, List.set_cons_zero, List.set_cons_succ]
        refine wpAnyH_ready (rs := [7]) (by kernel_rfl) (by simp) ?_
        refine (AllReadyH.cons rfl (fun K hK => ?_) AllReadyH.nil)
        go_simp
        obtain ⟨lb7, hbb⟩ : ∃ lb7, lb7 = v_2.heap.size := ⟨_, rfl⟩
        obtain ⟨v_3, hw2⟩ : ∃ v_3, v_3 = v_2.alloc (.cells #[.int .u8 c] 5) := ⟨_, rfl⟩
        have FL7 : Hid (Blk v_3 lb7 [.int .u8 c]) := by rw [hw2]; exact Blk.at_ v_2 #[.int .u8 c] _ lb7 hbb
        have FB : Hid (Below w.heap.size w v_3) := by rw [hw2]; exact FB.out.alloc FB.out.size _
        rw [← hw2, ← hbb]
        clear hbb hw2
        refine hK.out _ _ (by (try dsimp only); all_goals trivial) (fun hHeld => ?_)
        clear hK K
        try simp only [Act.put, List.getElem_toArray, List.getElem_cons_succ, List.getElem_cons_zero, List.setIfInBounds_toArray, List.set_cons_zero, List.set_cons_succ]
        refine wpAnyH_ready (rs := [8]) (by kernel_rfl) (by simp) ?_
        refine (AllReadyH.cons rfl (fun K hK => ?_) AllReadyH.nil)
        have hcv := cvB cn hc HCC.out (FL7.out.c 0 _ rfl)
        go_simp
        refine hK.out _ _ (by (try dsimp only); all_goals trivial) (fun hHeld => ?_)
        clear hK K
        try simp only [Act.put, List.getElem_toArray, List.getElem_cons_succ, List.getElem_cons_zero, List.setIfInBounds_toArray, List.set_cons_zero, List.set_cons_succ]
        refine tkz 9 rfl ?_
        refine tkz 10 rfl ?_
        refine wpAnyH_done (by kernel_rfl) ?_ _
        go_wp2_with fail
        go_ret
        exact ⟨ret_str HE.out, FB.out⟩
      · go_simp
        obtain ⟨lb7, hbb⟩ : ∃ lb7, lb7 = v_1.heap.size := ⟨_, rfl⟩
        obtain ⟨v_4, hw2⟩ : ∃ v_4, v_4 = v_1.alloc (.cells #[.int .u8 c] 5) := ⟨_, rfl⟩
        have FL7 : Hid (Blk v_4 lb7 [.int .u8 c]) := by rw [hw2]; exact Blk.at_ v_1 #[.int .u8 c] _ lb7 hbb
        have FB : Hid (Below w.heap.size w v_4) := by rw [hw2]; exact FB.out.alloc FB.out.size _
        rw [← hw2, ← hbb]
        clear hbb hw2
        refine hK.out _ _ (by (try dsimp only); all_goals trivial) (fun hHeld => ?_)
        clear hK K
        try simp only [Act.put, List.getElem_toArray, List.getElem_cons_succ, List.getElem_cons_zero, List.setIfInBounds_toArray, List.set_cons_zero, List.set_cons_succ]
        refine wpAnyH_ready (rs := [2, 8]) (by kernel_rfl) (by simp) ?_
        refine (AllReadyH.cons rfl (fun K hK => ?_) (AllReadyH.cons rfl (fun K hK => ?_) AllReadyH.nil))
        · go_simp
          refine (ih q hq _).mono ?_
          rintro e v_5 ⟨rfl, hb⟩
          have FB : Hid (Below w.heap.size w v_5) := FB.out.trans (hb.mono FB.out.size)
          have FL7 : Hid (Blk v_5 lb7 [.int .u8 c]) := FL7.out.below hb FL7.out.lt
          clear hb
          try dsimp only
          refine hK.out _ _ (by (try dsimp only); all_goals trivial) (fun hHeld => ?_)
          clear hK K
          try simp only [Act.put, List.getElem_toArray, List.getElem_cons_succ, List.getElem_cons_zero, List.setIfInBounds_toArray, List.set_cons_zero, List.set_cons_succ]
          refine wpAnyH_ready (rs := [8]) (by kernel_rfl) (by simp) ?_
          refine (AllReadyH.cons rfl (fun K hK => ?_) AllReadyH.nil)
          have hcv := cvB cn hc HCC.out (FL7.out.c 0 _ rfl)
          go_simp
          refine hK.out _ _ (by (try dsimp only); all_goals trivial) (fun hHeld => ?_)
          clear hK K
          try simp only [Act.put, List.getElem_toArray, List.getElem_cons_succ, List.getElem_cons_zero, List.setIfInBounds_toArray, List.set_cons_zero, List.set_cons_succ]
          refine tkz 9 rfl ?_
          refine tkz 10 rfl ?_
          refine wpAnyH_done (by kernel_rfl) ?_ _
          go_wp2_with fail
          go_ret
          exact ⟨ret_str HE.out, FB.out⟩
        · have hcv := cvB cn hc HCC.out (FL7.out.c 0 _ rfl)
          go_simp
          refine hK.out _ _ (by (try dsimp only); all_goals trivial) (fun hHeld => ?_)
          clear hK K
          try simp only [Act.put, List.getElem_toArray, List.getElem_cons_succ, List.getElem_cons_zero, List.setIfInBounds_toArray, List.set_cons_zero, List.set_cons_succ]
          refine wpAnyH_ready (rs := [2]) (by kernel_rfl) (by simp) ?_
          refine (AllReadyH.cons rfl (fun K hK => ?_) AllReadyH.nil)
          go_simp
          refine (ih q hq _).mono ?_
          rintro e v_6 ⟨rfl, hb⟩
          have FB : Hid (Below w.heap.size w v_6) := FB.out.trans (hb.mono FB.out.size)
          have FL7 : Hid (Blk v_6 lb7 [.int .u8 c]) := FL7.out.below hb FL7.out.lt
          clear hb
          try dsimp only
          refine hK.out _ _ (by (try dsimp only); all_goals trivial) (fun hHeld => ?_)
          clear hK K
          try simp only [Act.put, List.getElem_toArray, List.getElem_cons_succ, List.getElem_cons_zero, List.setIfInBounds_toArray, List.set_cons_zero, List.set_cons_succ]
          refine tkz 9 rfl ?_
          refine tkz 10 rfl ?_
          refine wpAnyH_done (by kernel_rfl) ?_ _
          go_wp2_with fail
          go_ret
          exact ⟨ret_str HE.out, FB.out⟩
set_option maxRecDepth 20000 in
set_option maxHeartbeats 16000000 in
theorem l9Decimal_any (n : Int) (hn : i64N n) (w : World) : Calls Tryz.prog 34 #[.int .i64 n] w fun e w' => e = .returned (.string (itB n)) ∧ Below w.heap.size w w' := by
  obtain ⟨h0, h1⟩ := hn
  by_cases hn : n < 0
  · obtain ⟨u, hu⟩ : ∃ u : Nat, n.natAbs = u := ⟨_, rfl⟩
    have hz : sz n = ((u : Nat) : Int) := by unfold sz; split <;> omega
    have hs := dgB_size u (by have : (18446744073709551616 : Nat) ≤ 10 ^ 20 := by decide
                              omega)
    have hs1 : ¬ (9223372036854775807 < 1 + (dgB u).size) := by omega
    have hu2 : u < u + 1 ∧ u < 18446744073709551616 := by omega
    have HE : Hid (⟨#[45]⟩ ++ dgB u = itB n) := by rw [itB_neg hn, hu]; exact rfl
    clear hs hu
    go_enter Tryz.func34, Tryz.ntmps34
    go_wp2_with (first | (go_at_call 55; refine (l1Size_any n h0 h1 _).mono ?_; rw [hz]; rintro e w' ⟨rfl, hw⟩; obtain rfl := hw.symm; clear hw) | (go_at_call 54; refine (l9Digits_any (u + 1) u hu2 _).mono ?_; rintro e w1 ⟨rfl, hb⟩))
    go_ret
    exact ⟨ret_str HE.out, hb⟩
  · obtain ⟨u, hu⟩ : ∃ u : Nat, n.toNat = u := ⟨_, rfl⟩
    have hn2 : 0 ≤ n := by omega
    have e1 : IntKind.u64.wrap n = ((u : Nat) : Int) := by rw [IntWalk.u64_in _ (by omega)]; omega
    have hu2 : u < u + 1 ∧ u < 18446744073709551616 := by omega
    have HE : Hid (dgB u = itB n) := by rw [itB_pos hn, hu]; exact rfl
    clear hu hn
    go_enter Tryz.func34, Tryz.ntmps34
    go_wp2_with (go_at_call 54; refine (l9Digits_any (u + 1) u hu2 _).mono ?_; rintro e w1 ⟨rfl, hb⟩)
    go_ret
    exact ⟨ret_str HE.out, hb⟩
/-- Numbers that can be read, in a row. -/
def NIn (w : World) (g : Nat) (l : List Int) : Prop := g < w.heap.size ∧ ∀ (i : Nat) x, l[i]? = some x → w.cell? ⟨g, i, none⟩ = some (.int .i64 x)
theorem NIn.below {W w : World} {g : Nat} {l : List Int} (h : NIn W g l) {B : Nat} (hb : Below B W w) (hB : g < B) : NIn w g l := ⟨Nat.lt_of_lt_of_le h.1 hb.size, fun i x hx => (hb.cell (p := ⟨g, i, none⟩) hB).trans (h.2 i x hx)⟩
theorem NIn.take {w : World} {g : Nat} {l : List Int} (h : NIn w g l) (k : Nat) : NIn w g (l.take k) := ⟨h.1, fun i x hx => h.2 i x (by rw [List.getElem?_take] at hx; split at hx <;> first | exact hx | cases hx)⟩
set_option maxRecDepth 20000 in
set_option maxHeartbeats 16000000 in
theorem l9Line_any (s : ByteArray) (l : List Int) (g cap : Nat) (hl : l.length ≤ 200) (hs : s.size ≤ 100000) (hi : ∀ n ∈ l, i64N n) (w : World) (hN : NIn w g l) :
    Calls Tryz.prog 12 #[.string s, .slice (some ⟨g, 0, none⟩) l.length cap] w fun e w' => e = .returned (.string (phr s l)) ∧ Below w.heap.size w w' := by
  have HN : Hid (NIn w g l) := hN
  clear hN
  go_enter Tryz.func12, Tryz.ntmps12
  go_wp2_with fail
  go_loopw [0, 5] (fun ss ii wr => ∃ (i : Nat) (u : ByteArray), ii = .int .i64 (i : Int) ∧ ss = .string u ∧ u = phr s (l.take i) ∧ i ≤ l.length ∧ Below w.heap.size w wr) (fun _ ii _ => l.length - (intOf ii).toNat)
  case atStart => exact ⟨0, s, rfl, rfl, rfl, by omega, Below.refl _ _⟩
  case round =>
    obtain ⟨i, u, rfl, rfl, hu, hin, hB⟩ := hrel
    have FB : Hid (Below w.heap.size w wr) := hB
    have us := phr_take hi s i
    rw [← hu] at us
    have HU : Hid (u = phr s (l.take i)) := hu
    clear hu hB
    by_cases hlt : i < l.length
    · obtain ⟨n, hn⟩ : ∃ n, l[i]? = some n := ⟨_, List.getElem?_eq_getElem hlt⟩
      have nb := hi n (List.mem_of_getElem? hn)
      have ns := itB_size nb
      have NW : NIn wr g l := HN.out.below FB.out HN.out.1
      have c0 := NW.2 i n hn
      have HU2 : Hid (phr s (l.take (i + 1)) = u ++ ((⟨#[32]⟩ : ByteArray) ++ itB n)) := by rw [phr_snoc hn, HU.out]; exact rfl
      obtain ⟨bn, hbn⟩ : ∃ bn, itB n = bn := ⟨_, rfl⟩
      rw [hbn] at ns HU2
      have HBN : Hid (itB n = bn) := hbn
      have s1 : ¬ (9223372036854775807 < u.size + 1) := by omega
      have s3 : ¬ (9223372036854775807 < u.size + 1 + bn.size) := by omega
      clear hn hbn HN HU us ns NW
      go_wp2_with (go_at_call 34; refine (l9Decimal_any n nb _).mono ?_; rw [HBN.out]; rintro e w1 ⟨rfl, hb⟩; have FB : Hid (Below w.heap.size w w1) := FB.out.trans (hb.mono FB.out.size); clear hb)
      go_roundw
      case rel => exact ⟨i + 1, _, by simp, rfl, by rw [HU2.out, ByteArray.append_assoc], by omega, FB.out⟩
      case measure => simp [intOf]; omega
    · have ei : i = l.length := by omega
      have hge : (l.length : Int) ≤ (i : Int) := by omega
      have HU3 : Hid (u = phr s l) := by have := HU.out; rw [ei, List.take_length] at this; exact this
      clear ei HU
      go_wp2_with fail
      go_ret
      exact ⟨ret_str HU3.out, FB.out⟩
theorem NIn.new (w : World) (l : List Int) (T : TypeId) : NIn (w.alloc (.cells (l.map (Value.int .i64)).toArray T)) w.heap.size l := by
  refine ⟨by simp, fun i x hx => ?_⟩
  simp [hx]
theorem NIn.lt {w : World} {g : Nat} {l : List Int} (h : NIn w g l) : g < w.heap.size := h.1
theorem NIn.alloc {w : World} {g : Nat} {l : List Int} (h : NIn w g l) (o : Obj) : NIn (w.alloc o) g l := h.below ((Below.refl _ _).alloc (Nat.le_refl _) o) h.1
theorem nin_blk {w : World} {g : Nat} {a b c : Int} (h : Blk w g [.int .i64 a, .int .i64 b, .int .i64 c]) : NIn w g [a, b, c] := by
  refine ⟨h.lt, fun i x hx => h.c i _ ?_⟩
  have e : ([.int .i64 a, .int .i64 b, .int .i64 c] : List Value) = [a, b, c].map (Value.int .i64) := rfl
  rw [e, List.getElem?_map, hx]
  rfl
end Go.Proofs.YtnfdplfifpmhoaaGreatDoor
