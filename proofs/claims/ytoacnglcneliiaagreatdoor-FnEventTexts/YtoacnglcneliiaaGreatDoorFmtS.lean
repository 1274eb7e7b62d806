/-
  The model's texts: digits, a number, a line.
-/
import Derived.Test.YtoacnglcneliiaaGreatDoorFmtP
import Derived.Test.YtoacnglcneliiaaGreatDoorFnd
import Derived.Test.YtoacnglcneliiaaGreatDoorEvB
import Derived.Laws.IdiomStrings
import Derived.Laws.Concat
import Derived.Deep.RegionHeld3
import Derived.BigGuardPart
namespace Go.Proofs.YtoacnglcneliiaaGreatDoor
open Go.RowKit Pl
set_option linter.unusedSimpArgs false
set_option linter.unusedVariables false

theorem cvB {W : World} {g : Nat} (c : Nat) (hc : c < 256) {x : Int} (hx : x = (c : Int)) (h : W.cell? ⟨g, 0, none⟩ = some (.int .u8 x)) : (convert 22 9 (.slice (some ⟨g, 0, none⟩) 1 1)).run Tryz.prog W = .ok (.string ⟨#[UInt8.ofNat c]⟩) W := by
  subst hx
  have r := run_convert_bytes_back (P := Tryz.prog) W 22 9 5 ⟨g, 0, none⟩ 1 [UInt8.ofNat c] Tryz.underlying22 Tryz.underlying5 Tryz.underlying9 (fun j hj => by
    have e : j = 0 := by simpa using hj
    subst e
    rw [show ((⟨g, 0, none⟩ : Addr).add 0) = ⟨g, 0, none⟩ by simp [Addr.add], h]
    simp
    omega)
  simpa using r
theorem ret_str {a b : ByteArray} (h : a = b) : Ending.returned (.string a) = Ending.returned (.string b) := by rw [h]
set_option maxRecDepth 20000 in
set_option maxHeartbeats 16000000 in
theorem l9Digits_any (k : Nat) : ∀ (u : Nat), u < k ∧ u < 18446744073709551616 → ∀ (w : World), Calls Tryz.prog 60 #[.int .u64 u] w fun e w' => e = .returned (.string (dgB u)) ∧ Below w.heap.size w w' := by
  induction k with
  | zero => intro u h; omega
  | succ k ih =>
    intro u h w
    obtain ⟨h1, h2⟩ := h
    by_cases hu : u < 10
    · have hi : ((u : Nat) : Int) < 10 := by omega
      have e1 : IntKind.u64.wrap (48 + (u : Int)) = 48 + (u : Int) := IntWalk.u64_in _ (by omega)
      have e2 : IntKind.u8.wrap (48 + (u : Int)) = 48 + (u : Int) := IntWalk.u8_in _ (by omega)
      have hcv := cvB (W := w.alloc (.cells #[.int .u8 (48 + (u : Int))] 5)) (g := w.heap.size) (48 + u) (by omega) (x := 48 + (u : Int)) (by omega) (by simp)
      obtain ⟨bb, hbb⟩ : ∃ bb, UInt8.ofNat (48 + u) = bb := ⟨_, rfl⟩
      have HE : Hid (dgB u = ⟨#[bb]⟩) := by rw [← hbb]; exact dgB_one hu
      rw [hbb] at hcv
      clear hbb
      go_enter Tryz.func60, Tryz.ntmps60
      go_wp2_with fail
      go_ret
      exact ⟨ret_str HE.out.symm, (Below.refl _ _).alloc (Nat.le_refl _) _⟩
    · have hi : (10 : Int) ≤ ((u : Nat) : Int) := by omega
      obtain ⟨q, hq0⟩ : ∃ q, u / 10 = q := ⟨_, rfl⟩
      obtain ⟨r, hr0⟩ : ∃ r, u % 10 = r := ⟨_, rfl⟩
      have hq : q < k ∧ q < 18446744073709551616 := by omega
      have hs := dgB_size q (by have : (18446744073709551616 : Nat) ≤ 10 ^ 20 := by decide
                                omega)
      have e1 : (u : Int).tdiv 10 = (q : Int) := by rw [Int.tdiv_eq_ediv_of_nonneg (by omega)]; omega
      have ewq : IntKind.u64.wrap (q : Int) = (q : Int) := IntWalk.u64_in _ (by omega)
      have e2 : (u : Int).tmod 10 = (r : Int) := by rw [Int.tmod_eq_emod_of_nonneg (by omega)]; omega
      obtain ⟨cn, hcn⟩ : ∃ cn, 48 + r = cn := ⟨_, rfl⟩
      obtain ⟨c, hcc⟩ : ∃ c, ((cn : Nat) : Int) = c := ⟨_, rfl⟩
      have e3 : IntKind.u64.wrap (48 + (r : Int)) = c := by rw [IntWalk.u64_in _ (by omega)]; omega
      have e4 : IntKind.u8.wrap c = c := IntWalk.u8_in _ (by omega)
      have HCC : Hid (c = (cn : Int)) := hcc.symm
      have HE : Hid (dgB q ++ ⟨#[UInt8.ofNat cn]⟩ = dgB u) := by rw [dgB_more hu, hq0, hr0, hcn]; exact rfl
      have hc : cn < 256 := by omega
      have hs1 : ¬ (9223372036854775807 < (dgB q).size + 1) := by omega
      clear h1 h2 hu hq0 hr0 hcn hs hcc
      have FB : Hid (Below w.heap.size w w) := Below.refl _ _
      go_enter Tryz.func60, Tryz.ntmps60
      go_upto_region 3 with fail
      have FB : Hid (Below w.heap.size w w.drew) := FB.out.drew
      refine wp_region_held_drew (S := (fun _ => True)) (by kernel_rfl) (by (try dsimp only); all_goals trivial) (fun hHeld => ?_)
      obtain ⟨v_1, hw1⟩ : ∃ v_1, v_1 = w.drew := ⟨_, rfl⟩
      have FB : Hid (Below w.heap.size w v_1) := by rw [hw1]; exact FB.out
      rw [← hw1]
      clear hw1
      refine tkz 0 rfl ?_
      refine tkz 1 rfl ?_
      refine tkz 3 rfl ?_
      refine tkz 4 rfl ?_
      refine tkz 5 rfl ?_
      refine tkz 6 rfl ?_
      refine wpAnyH_ready (rs := [2, 7]) (by kernel_rfl) (by simp) ?_
      refine (AllReadyH.cons rfl (fun K hK => ?_) (AllReadyH.cons rfl (fun K hK => ?_) AllReadyH.nil))
      · go_simp
        refine (ih q hq _).mono ?_
        rintro e v_2 ⟨rfl, hb⟩
        have FB : Hid (Below w.heap.size w v_2) := FB.out.trans (hb.mono FB.out.size)
        clear hb
        try dsimp only
        refine hK.out _ _ (by (try dsimp only); all_goals trivial) (fun hHeld => ?_)
        clear hK K
        try simp only [Act.put, List.getElem_toArray, List.getElem_cons_succ, List.getElem_cons_zero, List.setIfInBounds_toArray, List.set_cons_zero, List.set_cons_succ]
        refine wpAnyH_ready (rs := [7]) (by kernel_rfl) (by simp) ?_
        refine (AllReadyH.cons rfl (fun K hK => ?_) AllReadyH.nil)
        go_simp
        obtain ⟨lb7, hbb⟩ : ∃ lb7, lb7 = v_2.heap.size := ⟨_, rfl⟩
        obtain ⟨v_3, hw2⟩ : ∃ v_3, v_3 = v_2.alloc (.cells #[.int .u8 c] 5) := ⟨_, rfl⟩
        have FL7 : Hid (Blk v_3 lb7 [.int .u8 c]) := by rw [hw2]; exact Blk.at_ v_2 #[.int .u8 c] _ lb7 hbb
        have FB : Hid (Below w.heap.size w v_3) := by rw [hw2]; exact FB.out.alloc FB.out.size _
        rw [← hw2, ← hbb]
        clear hbb hw2
        refine hK.out _ _ (by (try dsimp only); all_goals trivial) (fun hHeld => ?_)
        clear hK K
        try simp only [Act.put, List.getElem_toArray, List.getElem_cons_succ, List.getElem_cons_zero, List.setIfInBounds_toArray, List.set_cons_zero, List.set_cons_succ]
        refine wpAnyH_ready (rs := [8]) (by kernel_rfl) (by simp) ?_
        refine (AllReadyH.cons rfl (fun K hK => ?_) AllReadyH.nil)
        have hcv := cvB cn hc HCC.out (FL7.out.c 0 _ rfl)
        go_simp
        refine hK.out _ _ (by (try dsimp only); all_goals trivial) (fun hHeld => ?_)
        clear hK K
        try simp only [Act.put, List.getElem_toArray, List.getElem_cons_succ, List.getElem_cons_zero, List.setIfInBounds_toArray, List.set_cons_zero, List.set_cons_succ]
        refine tkz 9 rfl ?_
        refine tkz 10 rfl ?_
        refine wpAnyH_done (by kernel_rfl) ?_ _
        go_wp2_with fail
        go_ret
        exact ⟨ret_str HE.out, FB.out⟩
      · go_simp
        obtain ⟨lb7, hbb⟩ : ∃ lb7, lb7 = v_1.heap.size := ⟨_, rfl⟩
        obtain ⟨v_4, hw2⟩ : ∃ v_4, v_4 = v_1.alloc (.cells #[.int .u8 c] 5) := ⟨_, rfl⟩
        have FL7 : Hid (Blk v_4 lb7 [.int .u8 c]) := by rw [hw2]; exact Blk.at_ v_1 #[.int .u8 c] _ lb7 hbb
        have FB : Hid (Below w.heap.size w v_4) := by rw [hw2]; exact FB.out.alloc FB.out.size _
        rw [← hw2, ← hbb]
        clear hbb hw2
        refine hK.out _ _ (by (try dsimp only); all_goals trivial) (fun hHeld => ?_)
        clear hK K
        try simp only [Act.put, List.getElem_toArray, List.getElem_cons_succ, List.getElem_cons_zero, List.setIfInBounds_toArray, List.set_cons_zero, List.set_cons_succ]
        refine wpAnyH_ready (rs := [2, 8]) (by kernel_rfl) (by simp) ?_
        refine (AllReadyH.cons rfl (fun K hK => ?_) (AllReadyH.cons rfl (fun K hK => ?_) AllReadyH.nil))
        · go_simp
          refine (ih q hq _).mono ?_
          rintro e v_5 ⟨rfl, hb⟩
          have FB : Hid (Below w.heap.size w v_5) := FB.out.trans (hb.mono FB.out.size)
          have FL7 : Hid (Blk v_5 lb7 [.int .u8 c]) := FL7.out.below hb FL7.out.lt
          clear hb
          try dsimp only
          refine hK.out _ _ (by (try dsimp only); all_goals trivial) (fun hHeld => ?_)
          clear hK K
          try simp only [Act.put, List.getElem_toArray, List.getElem_cons_succ, List.getElem_cons_zero, List.setIfInBounds_toArray, List.set_cons_zero, List.set_cons_succ]
          refine wpAnyH_ready (rs := [8]) (by kernel_rfl) (by simp) ?_
          refine (AllReadyH.cons rfl (fun K hK => ?_) AllReadyH.nil)
          have hcv := cvB cn hc HCC.out (FL7.out.c 0 _ rfl)
          go_simp
          refine hK.out _ _ (by (try dsimp only); all_goals trivial) (fun hHeld => ?_)
          clear hK K
          try simp only [Act.put, List.getElem_toArray, List.getElem_cons_succ, List.getElem_cons_zero, List.setIfInBounds_toArray, List.set_cons_zero, List.set_cons_succ]
          refine tkz 9 rfl ?_
          refine tkz 10 rfl ?_
          refine wpAnyH_done (by kernel_rfl) ?_ _
          go_wp2_with fail
          go_ret
          exact ⟨ret_str HE.out, FB.out⟩
        · have hcv := cvB cn hc HCC.out (FL7.out.c 0 _ rfl)
          go_simp
          refine hK.out _ _ (by (try dsimp only); all_goals trivial) (fun hHeld => ?_)
          clear hK K
          try simp only [Act.put, List.getElem_toArray, List.getElem_cons_succ, List.getElem_cons_zero, List.setIfInBounds_toArray, List.set_cons_zero, List.set_cons_succ]
          refine wpAnyH_ready (rs := [2]) (by kernel_rfl) (by simp) ?_
          refine (AllReadyH.cons rfl (fun K hK => ?_) AllReadyH.nil)
          go_simp
          refine (ih q hq _).mono ?_
          rintro e v_6 ⟨rfl, hb⟩
          have FB : Hid (Below w.heap.size w v_6) := FB.out.trans (hb.mono FB.out.size)
          have FL7 : Hid (Blk v_6 lb7 [.int .u8 c]) := FL7.out.below hb FL7.out.lt
          clear hb
          try dsimp only
          refine hK.out _ _ (by (try dsimp only); all_goals trivial) (fun hHeld => ?_)
          clear hK K
          try simp only [Act.put, List.getElem_toArray, List.getElem_cons_succ, List.getElem_cons_zero, List.setIfInBounds_toArray, List.set_cons_zero, List.set_cons_succ]
          refine tkz 9 rfl ?_
          refine tkz 10 rfl ?_
          refine wpAnyH_done (by kernel_rfl) ?_ _
          go_wp2_with fail
          go_ret
          exact ⟨ret_str HE.out, FB.out⟩
set_option maxRecDepth 20000 in
set_option maxHeartbeats 16000000 in
theorem l9Decimal_any (n : Int) (hn : i64N n) (w : World) : Calls Tryz.prog 32 #[.int .i64 n] w fun e w' => e = .returned (.string (itB n)) ∧ Below w.heap.size w w' := by
  obtain ⟨h0, h1⟩ := hn
  by_cases hn : n < 0
  · obtain ⟨u, hu⟩ : ∃ u : Nat, n.natAbs = u := ⟨_, rfl⟩
    have hz : sz n = ((u : Nat) : Int) := by unfold sz; split <;> omega
    have hs := dgB_size u (by have : (18446744073709551616 : Nat) ≤ 10 ^ 20 := by decide
                              omega)
    have hs1 : ¬ (9223372036854775807 < 1 + (dgB u).size) := by omega
    have hu2 : u < u + 1 ∧ u < 18446744073709551616 := by omega
    have HE : Hid (⟨#[45]⟩ ++ dgB u = itB n) := by rw [itB_neg hn, hu]; exact rfl
    clear hs hu
    go_enter Tryz.func32, Tryz.ntmps32
    go_wp2_with (first | (go_at_call 61; refine (l1Size_any n h0 h1 _).mono ?_; rw [hz]; rintro e w' ⟨rfl, hw⟩; obtain rfl := hw.symm; clear hw) | (go_at_call 60; refine (l9Digits_any (u + 1) u hu2 _).mono ?_; rintro e w1 ⟨rfl, hb⟩))
    go_ret
    exact ⟨ret_str HE.out, hb⟩
  · obtain ⟨u, hu⟩ : ∃ u : Nat, n.toNat = u := ⟨_, rfl⟩
    have hn2 : 0 ≤ n := by omega
    have e1 : IntKind.u64.wrap n = ((u : Nat) : Int) := by rw [IntWalk.u64_in _ (by omega)]; omega
    have hu2 : u < u + 1 ∧ u < 18446744073709551616 := by omega
    have HE : Hid (dgB u = itB n) := by rw [itB_pos hn, hu]; exact rfl
    clear hu hn
    go_enter Tryz.func32, Tryz.ntmps32
    go_wp2_with (go_at_call 60; refine (l9Digits_any (u + 1) u hu2 _).mono ?_; rintro e w1 ⟨rfl, hb⟩)
    go_ret
    exact ⟨ret_str HE.out, hb⟩
/-- Numbers that can be read, in a row. -/
def NIn (w : World) (g : Nat) (l : List Int) : Prop := g < w.heap.size ∧ ∀ (i : Nat) x, l[i]? = some x → w.cell? ⟨g, i, none⟩ = some (.int .i64 x)
theorem NIn.below {W w : World} {g : Nat} {l : List Int} (h : NIn W g l) {B : Nat} (hb : Below B W w) (hB : g < B) : NIn w g l := ⟨Nat.lt_of_lt_of_le h.1 hb.size, fun i x hx => (hb.cell (p := ⟨g, i, none⟩) hB).trans (h.2 i x hx)⟩
theorem NIn.take {w : World} {g : Nat} {l : List Int} (h : NIn w g l) (k : Nat) : NIn w g (l.take k) := ⟨h.1, fun i x hx => h.2 i x (by rw [List.getElem?_take] at hx; split at hx <;> first | exact hx | cases hx)⟩
set_option maxRecDepth 20000 in
set_option maxHeartbeats 16000000 in
theorem l9Line_any (s : ByteArray) (l : List Int) (g cap : Nat) (hl : l.length ≤ 200) (hs : s.size ≤ 100000) (hi : ∀ n ∈ l, i64N n) (w : World) (hN : NIn w g l) :
    Calls Tryz.prog 34 #[.string s, .slice (some ⟨g, 0, none⟩) l.length cap] w fun e w' => e = .returned (.string (phr s l)) ∧ Below w.heap.size w w' := by
  have HN : Hid (NIn w g l) := hN
  clear hN
  go_enter Tryz.func34, Tryz.ntmps34
  go_wp2_with fail
  go_loopw [0, 5] (fun ss ii wr => ∃ (i : Nat) (u : ByteArray), ii = .int .i64 (i : Int) ∧ ss = .string u ∧ u = phr s (l.take i) ∧ i ≤ l.length ∧ Below w.heap.size w wr) (fun _ ii _ => l.length - (intOf ii).toNat)
  case atStart => exact ⟨0, s, rfl, rfl, rfl, by omega, Below.refl _ _⟩
  case round =>
    obtain ⟨i, u, rfl, rfl, hu, hin, hB⟩ := hrel
    have FB : Hid (Below w.heap.size w wr) := hB
    have us := phr_take hi s i
    rw [← hu] at us
    have HU : Hid (u = phr s (l.take i)) := hu
    clear hu hB
    by_cases hlt : i < l.length
    · obtain ⟨n, hn⟩ : ∃ n, l[i]? = some n := ⟨_, List.getElem?_eq_getElem hlt⟩
      have nb := hi n (List.mem_of_getElem? hn)
      have ns := itB_size nb
      have NW : NIn wr g l := HN.out.below FB.out HN.out.1
      have c0 := NW.2 i n hn
      have HU2 : Hid (phr s (l.take (i + 1)) = u ++ ((⟨#[32]⟩ : ByteArray) ++ itB n)) := by rw [phr_snoc hn, HU.out]; exact rfl
      obtain ⟨bn, hbn⟩ : ∃ bn, itB n = bn := ⟨_, rfl⟩
      rw [hbn] at ns HU2
      have HBN : Hid (itB n = bn) := hbn
      have s1 : ¬ (9223372036854775807 < u.size + 1) := by omega
      have s3 : ¬ (9223372036854775807 < u.size + 1 + bn.size) := by omega
      clear hn hbn HN HU us ns NW
      go_wp2_with (go_at_call 32; refine (l9Decimal_any n nb _).mono ?_; rw [HBN.out]; rintro e w1 ⟨rfl, hb⟩; have FB : Hid (Below w.heap.size w w1) := FB.out.trans (hb.mono FB.out.size); clear hb)
      go_roundw
      case rel => exact ⟨i + 1, _, by simp, rfl, by rw [HU2.out, ByteArray.append_assoc], by omega, FB.out⟩
      case measure => simp [intOf]; omega
    · have ei : i = l.length := by omega
      have hge : (l.length : Int) ≤ (i : Int) := by omega
      have HU3 : Hid (u = phr s l) := by have := HU.out; rw [ei, List.take_length] at this; exact this
      clear ei HU
      go_wp2_with fail
      go_ret
      exact ⟨ret_str HU3.out, FB.out⟩
structure WdA (w : World) (g : Nat) : Prop where
  lt : g < w.heap.size
  c : ∀ k : Nat, k < 6 → w.cell? ⟨g, k, none⟩ = some (.string (evW (k : Int)))
theorem WdA.below {W w : World} {g B : Nat} (h : WdA W g) (hb : Below B W w) (hB : g < B) : WdA w g := ⟨Nat.lt_of_lt_of_le h.lt hb.size, fun k hk => (hb.cell (p := ⟨g, k, none⟩) hB).trans (h.c k hk)⟩
theorem WdA.alloc {W : World} {g : Nat} (h : WdA W g) (o : Obj) : WdA (W.alloc o) g := h.below ((Below.refl _ _).alloc (Nat.le_refl _) o) h.lt
theorem WdA.at_ (w : World) (T : TypeId) : WdA (w.alloc (.cells #[.string ⟨#[]⟩, .string ⟨#[99, 97, 108, 108]⟩, .string ⟨#[98, 111, 97, 114, 100]⟩, .string ⟨#[116, 104, 101, 114, 101]⟩, .string ⟨#[111, 117, 116]⟩, .string ⟨#[103, 111, 110, 101]⟩] T)) w.heap.size := by
  refine ⟨by simp, fun k hk => ?_⟩
  rcases (show k = 0 ∨ k = 1 ∨ k = 2 ∨ k = 3 ∨ k = 4 ∨ k = 5 by omega) with rfl | rfl | rfl | rfl | rfl | rfl <;> simp [evW]
set_option maxRecDepth 20000 in
set_option maxHeartbeats 16000000 in
theorem l10Words_any (w : World) : Calls Tryz.prog 33 #[] w fun e w' => ∃ g, e = .returned (.slice (some ⟨g, 0, none⟩) 6 6) ∧ WdA w' g ∧ w.heap.size ≤ g ∧ Below w.heap.size w w' := by
  go_enter Tryz.func33, Tryz.ntmps33
  go_wp2_with fail
  go_ret
  exact ⟨w.heap.size, rfl, WdA.at_ w _, Nat.le_refl _, (Below.refl _ _).alloc (Nat.le_refl _) _⟩
theorem NIn.new (w : World) (l : List Int) (T : TypeId) : NIn (w.alloc (.cells (l.map (Value.int .i64)).toArray T)) w.heap.size l := by
  refine ⟨by simp, fun i x hx => ?_⟩
  simp [hx]
set_option maxRecDepth 20000 in
set_option maxHeartbeats 16000000 in
theorem l10Line_any (e : Ev) (he : EvI e) (h1 : 1 ≤ e.kd) (h5 : e.kd ≤ 5) (w : World) : Calls Tryz.prog 16 #[.agg #[.int .i64 e.tk, .int .i64 e.kd, .int .i64 e.id, .int .i64 e.fl, .int .i64 e.tw]] w fun r w' => r = .returned (.string (evLn e)) ∧ Below w.heap.size w w' := by
  obtain ⟨W0, hW0⟩ : ∃ W0, W0 = w.alloc (.cells #[.int .i64 e.tk, .int .i64 e.kd, .int .i64 e.id, .int .i64 e.fl, .int .i64 e.tw] 34) := ⟨_, rfl⟩
  have F0 : Hid (EvW W0 w.heap.size e) := by rw [hW0]; exact EvW.at_ w e _ _ rfl
  have FB : Hid (Below w.heap.size w W0) := by rw [hW0]; exact (Below.refl _ _).alloc (Nat.le_refl _) _
  have hit := itB_size he.tk
  have hws := evW_size e.kd
  obtain ⟨kn, hkn⟩ : ∃ kn, e.kd.toNat = kn := ⟨_, rfl⟩
  have HKN : Hid ((kn : Int) = e.kd) := by show _ = _; omega
  have hkl : kn < 6 := by omega
  have k0 : 0 ≤ e.kd := by omega
  have k6 : e.kd < 6 := by omega
  have s1 : ¬ (9223372036854775807 < (itB e.tk).size + 1) := by omega
  have s2 : ¬ (9223372036854775807 < (itB e.tk).size + 1 + (evW e.kd).size) := by omega
  have hz : ((itB e.tk ++ ⟨#[32]⟩) ++ evW e.kd).size ≤ 100000 := by
    rw [ByteArray.size_append, ByteArray.size_append]
    show (itB e.tk).size + 1 + _ ≤ _
    omega
  have HW0 : Hid (W0 = _) := hW0
  clear hW0
  go_enter Tryz.func16, Tryz.ntmps16
  go_upto_region 1 with fail
  rw [← HW0.out]
  clear HW0
  have F0 : Hid (EvW W0.drew w.heap.size e) := F0.out.below (Below.refl _ _).drew F0.out.lt
  have FB : Hid (Below w.heap.size w W0.drew) := FB.out.drew
  obtain ⟨x0_0, x0_1, x0_2, x0_3, x0_4, y0_0, y0_1, y0_2, y0_3, y0_4⟩ := F0.out
  refine wp_region_held_drew (S := (fun w'' => w''.cell? ⟨w.heap.size, 0, none⟩ = some (.int .i64 e.tk) ∧ w''.cell? ⟨w.heap.size, 1, none⟩ = some (.int .i64 e.kd) ∧ w''.cell? ⟨w.heap.size, 2, none⟩ = some (.int .i64 e.id) ∧ w''.cell? ⟨w.heap.size, 3, none⟩ = some (.int .i64 e.fl) ∧ w''.cell? ⟨w.heap.size, 4, none⟩ = some (.int .i64 e.tw))) (by kernel_rfl) (by (try dsimp only); first | exact ⟨x0_0, x0_1, x0_2, x0_3, x0_4⟩ | go_keep) (fun hHeld => ?_)
  obtain ⟨v_7, hw1⟩ : ∃ v_7, v_7 = W0.drew := ⟨_, rfl⟩
  have F0 : Hid (EvW v_7 w.heap.size e) := by rw [hw1]; exact F0.out
  have FB : Hid (Below w.heap.size w v_7) := by rw [hw1]; exact FB.out
  rw [← hw1] at hHeld ⊢
  clear hw1
  obtain ⟨x0_0, x0_1, x0_2, x0_3, x0_4, y0_0, y0_1, y0_2, y0_3, y0_4⟩ := F0.out
  refine tkz 0 rfl ?_
  refine tkz 1 rfl ?_
  refine tkz 5 rfl ?_
  refine tkz 6 rfl ?_
  refine wpAnyH_ready (rs := [2]) (by kernel_rfl) (by simp) ?_
  refine (AllReadyH.cons rfl (fun K hK => ?_) AllReadyH.nil)
  go_simp
  refine (l9Decimal_any e.tk he.tk _).mono ?_
  rintro e v_8 ⟨rfl, hb⟩
  have F0 : Hid (EvW v_8 w.heap.size e) := F0.out.below hb F0.out.lt
  have FB : Hid (Below w.heap.size w v_8) := FB.out.trans (hb.mono FB.out.size)
  clear hb
  obtain ⟨x0_0, x0_1, x0_2, x0_3, x0_4, y0_0, y0_1, y0_2, y0_3, y0_4⟩ := F0.out
  try dsimp only
  refine hK.out _ _ (by (try dsimp only); first | exact ⟨x0_0, x0_1, x0_2, x0_3, x0_4⟩ | go_keep) (fun hHeld => ?_)
  clear hK K
  try simp only [Act.put, List.getElem_toArray, List.getElem_cons_succ, List.getElem_cons_zero, List.setIfInBounds_toArray, List.set_cons_zero, List.set_cons_succ]
  refine tkz 3 rfl ?_
  refine wpAnyH_ready (rs := [4]) (by kernel_rfl) (by simp) ?_
  refine (AllReadyH.cons rfl (fun K hK => ?_) AllReadyH.nil)
  go_simp
  refine (l10Words_any _).mono ?_
  rintro e v_9 ⟨g, rfl, hwd, hg, hb⟩
  have FW : Hid (WdA v_9 g) := hwd
  have F0 : Hid (EvW v_9 w.heap.size e) := F0.out.below hb F0.out.lt
  have FB : Hid (Below w.heap.size w v_9) := FB.out.trans (hb.mono FB.out.size)
  clear hb
  obtain ⟨x0_0, x0_1, x0_2, x0_3, x0_4, y0_0, y0_1, y0_2, y0_3, y0_4⟩ := F0.out
  try dsimp only
  refine hK.out _ _ (by (try dsimp only); first | exact ⟨x0_0, x0_1, x0_2, x0_3, x0_4⟩ | go_keep) (fun hHeld => ?_)
  clear hK K
  try simp only [Act.put, List.getElem_toArray, List.getElem_cons_succ, List.getElem_cons_zero, List.setIfInBounds_toArray, List.set_cons_zero, List.set_cons_succ]
  refine tkz 7 rfl ?_
  refine wpAnyH_ready (rs := [8]) (by kernel_rfl) (by simp) ?_
  refine (AllReadyH.cons rfl (fun K hK => ?_) AllReadyH.nil)
  have cw := FW.out.c kn hkl
  rw [HKN.out] at cw
  go_simp
  refine hK.out _ _ (by (try dsimp only); first | exact ⟨x0_0, x0_1, x0_2, x0_3, x0_4⟩ | go_keep) (fun hHeld => ?_)
  clear hK K
  try simp only [Act.put, List.getElem_toArray, List.getElem_cons_succ, List.getElem_cons_zero, List.setIfInBounds_toArray, List.set_cons_zero, List.set_cons_succ]
  refine tkz 9 rfl ?_
  refine tkz 10 rfl ?_
  refine wpAnyH_done (by kernel_rfl) ?_ _
  obtain ⟨W1, hW1⟩ : ∃ W1, W1 = v_9 := ⟨_, rfl⟩
  have F0 : Hid (EvW W1 w.heap.size e) := by rw [hW1]; exact F0.out
  have FB : Hid (Below w.heap.size w W1) := by rw [hW1]; exact FB.out
  rw [← hW1]
  clear hW1
  clear s1 s2 hkn HKN hkl k0 k6
  by_cases c1 : e.kd = 1
  case pos =>
    have b1 : (e.kd == 1) = true := by simp [c1]
    have hnum : evN e.kd = 3 := by rw [c1]; rfl
    clear c1
    have hall : ∀ n ∈ [e.id, e.fl, e.tw], i64N n := fun n hn => he.all n (by simp at hn ⊢; omega)
    have hp := phr_size [e.id, e.fl, e.tw] hall ((itB e.tk ++ ⟨#[32]⟩) ++ evW e.kd)
    simp only [List.length_cons, List.length_nil] at hp
    have s4 : ¬ (9223372036854775807 < (phr ((itB e.tk ++ ⟨#[32]⟩) ++ evW e.kd) [e.id, e.fl, e.tw]).size + 1) := by omega
    have HE : Hid (phr ((itB e.tk ++ ⟨#[32]⟩) ++ evW e.kd) [e.id, e.fl, e.tw] ++ ⟨#[10]⟩ = evLn e) := by rw [← evLn_model, hnum]; exact rfl
    clear hp hnum
    obtain ⟨x0_0, x0_1, x0_2, x0_3, x0_4, y0_0, y0_1, y0_2, y0_3, y0_4⟩ := F0.out
    go_wp2_with (go_at_call 34; refine (l9Line_any _ [e.id, e.fl, e.tw] _ _ (by simp) hz hall _ (NIn.new W1 [e.id, e.fl, e.tw] _)).mono ?_; rintro r w3 ⟨rfl, hb⟩; have FB : Hid (Below w.heap.size w w3) := FB.out.trans ((((Below.refl _ W1).alloc (Nat.le_refl _) _).trans (hb.mono (by simp))).mono FB.out.size); clear hb)
    go_ret
    exact ⟨ret_str HE.out, FB.out⟩
  case neg =>
  have b1 : (e.kd == 1) = false := by simpa using c1
  by_cases c5 : e.kd = 5
  case pos =>
    have b5 : (e.kd == 5) = true := by simp [c5]
    have hnum : evN e.kd = 1 := by rw [c5]; rfl
    clear c1 c5
    have hall : ∀ n ∈ [e.id], i64N n := fun n hn => he.all n (by simp at hn ⊢; omega)
    have hp := phr_size [e.id] hall ((itB e.tk ++ ⟨#[32]⟩) ++ evW e.kd)
    simp only [List.length_cons, List.length_nil] at hp
    have s4 : ¬ (9223372036854775807 < (phr ((itB e.tk ++ ⟨#[32]⟩) ++ evW e.kd) [e.id]).size + 1) := by omega
    have HE : Hid (phr ((itB e.tk ++ ⟨#[32]⟩) ++ evW e.kd) [e.id] ++ ⟨#[10]⟩ = evLn e) := by rw [← evLn_model, hnum]; exact rfl
    clear hp hnum
    obtain ⟨x0_0, x0_1, x0_2, x0_3, x0_4, y0_0, y0_1, y0_2, y0_3, y0_4⟩ := F0.out
    go_wp2_with (go_at_call 34; refine (l9Line_any _ [e.id] _ _ (by simp) hz hall _ (NIn.new W1 [e.id] _)).mono ?_; rintro r w3 ⟨rfl, hb⟩; have FB : Hid (Below w.heap.size w w3) := FB.out.trans ((((Below.refl _ W1).alloc (Nat.le_refl _) _).trans (hb.mono (by simp))).mono FB.out.size); clear hb)
    go_ret
    exact ⟨ret_str HE.out, FB.out⟩
  case neg =>
    have b5 : (e.kd == 5) = false := by simpa using c5
    have hnum : evN e.kd = 2 := by unfold evN; rw [if_neg c1, if_neg c5]
    clear c1 c5
    have hall : ∀ n ∈ [e.id, e.fl], i64N n := fun n hn => he.all n (by simp at hn ⊢; omega)
    have hp := phr_size [e.id, e.fl] hall ((itB e.tk ++ ⟨#[32]⟩) ++ evW e.kd)
    simp only [List.length_cons, List.length_nil] at hp
    have s4 : ¬ (9223372036854775807 < (phr ((itB e.tk ++ ⟨#[32]⟩) ++ evW e.kd) [e.id, e.fl]).size + 1) := by omega
    have HE : Hid (phr ((itB e.tk ++ ⟨#[32]⟩) ++ evW e.kd) [e.id, e.fl] ++ ⟨#[10]⟩ = evLn e) := by rw [← evLn_model, hnum]; exact rfl
    clear hp hnum
    obtain ⟨x0_0, x0_1, x0_2, x0_3, x0_4, y0_0, y0_1, y0_2, y0_3, y0_4⟩ := F0.out
    go_wp2_with (go_at_call 34; refine (l9Line_any _ [e.id, e.fl] _ _ (by simp) hz hall _ (NIn.new W1 [e.id, e.fl] _)).mono ?_; rintro r w3 ⟨rfl, hb⟩; have FB : Hid (Below w.heap.size w w3) := FB.out.trans ((((Below.refl _ W1).alloc (Nat.le_refl _) _).trans (hb.mono (by simp))).mono FB.out.size); clear hb)
    go_ret
    exact ⟨ret_str HE.out, FB.out⟩
end Go.Proofs.YtoacnglcneliiaaGreatDoor
