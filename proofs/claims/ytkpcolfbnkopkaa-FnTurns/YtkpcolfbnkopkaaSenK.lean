/-
  Sensors: the program's counts.
-/
import Derived.Test.YtkpcolfbnkopkaaSenD
import Derived.Test.YtkpcolfbnkopkaaInts
namespace Go.Proofs.Ytkpcolfbnkopkaa
open Go.RowKit Pl
set_option linter.unusedSimpArgs false
set_option linter.unusedVariables false

theorem ret_bool {a b : Bool} (h : a = b) : Ending.returned (.bool a) = .returned (.bool b) := by rw [h]
/-- Are all of them counts? -/
def allC (l : List Int) : Bool := l.all isCount
theorem allC_take {l : List Int} {i : Nat} {x : Int} (h : l[i]? = some x) : allC (l.take (i + 1)) = (allC (l.take i) && isCount x) := by
  have hi : i < l.length := (List.getElem?_eq_some_iff.1 h).1
  have e : l[i] = x := (List.getElem?_eq_some_iff.1 h).2
  unfold allC
  rw [List.take_succ_eq_append_getElem hi, e, List.all_append]
  simp
theorem allC_no {l : List Int} {i : Nat} {x : Int} (h : l[i]? = some x) (hx : isCount x = false) : allC l = false := by
  unfold allC
  rw [List.all_eq_false]
  refine ⟨x, List.mem_of_getElem? h, ?_⟩
  rw [hx]
  decide
set_option maxRecDepth 20000 in
set_option maxHeartbeats 8000000 in
theorem areCounts_any (a : Option Addr) (cap : Nat) (l : List Int) (hl : l.length ≤ 1048576) (w : World) (h : IIn w a l) :
    Calls Try.prog 31 #[.slice a l.length cap] w fun e w' => e = .returned (.bool (allC l)) ∧ w' = w := by
  have H0 : Hid (IIn w a l) := h
  clear h
  obtain ⟨r, hr⟩ : ∃ r, allC l = r := ⟨_, rfl⟩
  rw [hr]
  have HR : Hid (allC l = r) := hr
  clear hr
  go_enter Try.func31, Try.ntmps31
  go_wp2_with fail
  go_loopw [7] (fun ii wr => ∃ i : Nat, ii = .int .i64 i ∧ i ≤ l.length ∧ allC (l.take i) = true ∧ wr = w) (fun ii _ => l.length - (intOf ii).toNat)
  case atStart => exact ⟨0, rfl, by omega, rfl, rfl⟩
  case round =>
    obtain ⟨i, rfl, hi, ha, hw⟩ := hrel
    obtain rfl := hw.symm
    clear hw
    have HA : Hid (allC (l.take i) = true) := ha
    clear ha
    by_cases hlt : i < l.length
    · obtain ⟨x, hx⟩ : ∃ x, l[i]? = some x := ⟨_, List.getElem?_eq_getElem hlt⟩
      have HX : Hid (l[i]? = some x) := hx
      rcases H0.out with h0 | ⟨g, rfl, hg, hc⟩
      · rw [h0] at hlt; simp at hlt
      have c0 := hc i x hx
      clear hx hc
      cases hC : inB x 0 65535
      · go_wp2_with (go_at_call 34; refine (isWithin_any _ _ _ _).mono ?_; rw [hC]; rintro e w' ⟨rfl, hw⟩; obtain rfl := hw.symm; clear hw)
        go_ret
        exact ⟨ret_bool ((allC_no HX.out hC).symm.trans HR.out), rfl⟩
      · go_wp2_with (go_at_call 34; refine (isWithin_any _ _ _ _).mono ?_; rw [hC]; rintro e w' ⟨rfl, hw⟩; obtain rfl := hw.symm; clear hw)
        go_roundw
        case rel => exact ⟨i + 1, by simp, by omega, by rw [allC_take HX.out, HA.out]; exact hC, by first | rfl | trivial⟩
        case measure => simp [intOf]; omega
    · have ei : i = l.length := by omega
      subst ei
      go_wp2_with fail
      go_ret
      exact ⟨ret_bool (by rw [← HR.out, ← HA.out, List.take_length]), rfl⟩
theorem areCounts_one (n : Int) (b : Nat) (w : World) (h : w.cell? ⟨b, 0, none⟩ = some (.int .i64 n)) :
    Calls Try.prog 31 #[.slice (some ⟨b, 0, none⟩) 1 1] w fun e w' => e = .returned (.bool (isCount n)) ∧ w' = w := by
  have hi : IIn w (some ⟨b, 0, none⟩) [n] := Or.inr ⟨b, rfl, World.block_lt_of_cell? w _ h, fun i x hx => by
    match i, hx with
    | 0, hx => simp at hx; subst hx; exact h
    | i + 1, hx => simp at hx⟩
  have q := areCounts_any (some ⟨b, 0, none⟩) 1 [n] (by simp) w hi
  have e : allC [n] = isCount n := by simp [allC]
  rw [e] at q
  exact q
theorem areCounts_two (n m : Int) (b : Nat) (w : World) (h0 : w.cell? ⟨b, 0, none⟩ = some (.int .i64 n)) (h1 : w.cell? ⟨b, 1, none⟩ = some (.int .i64 m)) :
    Calls Try.prog 31 #[.slice (some ⟨b, 0, none⟩) 2 2] w fun e w' => e = .returned (.bool (isCount n && isCount m)) ∧ w' = w := by
  have hi : IIn w (some ⟨b, 0, none⟩) [n, m] := Or.inr ⟨b, rfl, World.block_lt_of_cell? w _ h0, fun i x hx => by
    match i, hx with
    | 0, hx => simp at hx; subst hx; exact h0
    | 1, hx => simp at hx; subst hx; exact h1
    | i + 2, hx => simp at hx⟩
  have q := areCounts_any (some ⟨b, 0, none⟩) 2 [n, m] (by simp) w hi
  have e : allC [n, m] = (isCount n && isCount m) := by simp [allC]
  rw [e] at q
  exact q
theorem ret_two2 {a b c d : Int} (h : a = b) (k : c = d) : Ending.returned (.agg #[.int .i64 a, .int .i64 c]) = .returned (.agg #[.int .i64 b, .int .i64 d]) := by rw [h, k]
set_option maxRecDepth 20000 in
set_option maxHeartbeats 8000000 in
theorem implGray_any (n : Int) (w : World) :
    Calls Try.prog 11 #[.int .i64 n] w fun e w' => e = .returned (.agg #[.int .i64 (grayK n), .int .i64 (grayV n)]) ∧ Below w.heap.size w w' := by
  have F : Hid (Blk (w.alloc (.cells #[.int .i64 0, .int .i64 0] 26)) w.heap.size [.int .i64 0, .int .i64 0]) := Blk.at_ w _ _ _ rfl
  have FB : Hid (Below w.heap.size w (w.alloc (.cells #[.int .i64 0, .int .i64 0] 26))) := (Below.refl _ _).alloc (Nat.le_refl _) _
  unfold grayK grayV grayP
  cases h : isCount n
  · rw [if_neg (by decide), if_neg (by decide)]
    go_enter Try.func11, Try.ntmps11
    go_wp2_with (first | (go_at_call 31; refine (areCounts_one n _ _ (by simp)).mono ?_; rw [h]; rintro e w' ⟨rfl, hw⟩; obtain rfl := hw.symm; clear hw) | (refine store_blk [.int .i64 (3), .int .i64 (0)] 26 _ _ (by kernel_rfl) (by kernel_rfl) (by kernel_rfl) (F.out.alloc _) rfl rfl rfl rfl ?_))
    exact bodyPost_ret (v := .agg #[.int .i64 (3), .int .i64 (0)]) (((F.out.alloc _).row [.int .i64 (3), .int .i64 (0)]).res _ Try.results11 Try.underlying26 (by kernel_rfl) rfl) rfl ⟨rfl, below_row (FB.out.alloc (by simp) _) (Nat.le_refl _) _⟩
  · rw [if_pos rfl, if_pos rfl]
    go_enter Try.func11, Try.ntmps11
    go_wp2_with (first | (go_at_call 31; refine (areCounts_one n _ _ (by simp)).mono ?_; rw [h]; rintro e w' ⟨rfl, hw⟩; obtain rfl := hw.symm; clear hw) | (refine store_blk [.int .i64 (0), .int .i64 (bits BinOp.xor .i64 n (n / 2))] 26 _ _ (by kernel_rfl) (by kernel_rfl) (by kernel_rfl) (F.out.alloc _) rfl rfl rfl rfl ?_))
    exact bodyPost_ret (v := .agg #[.int .i64 (0), .int .i64 (bits BinOp.xor .i64 n (n / 2))]) (((F.out.alloc _).row [.int .i64 (0), .int .i64 (bits BinOp.xor .i64 n (n / 2))]).res _ Try.results11 Try.underlying26 (by kernel_rfl) rfl) rfl ⟨rfl, below_row (FB.out.alloc (by simp) _) (Nat.le_refl _) _⟩
/-- What each round takes in. -/
def gk : Nat → Nat → Nat
  | 0, g => g
  | k + 1, g => gk k g ^^^ gk k g / 2 ^ 2 ^ k
theorem gk_lt {g : Nat} (h : g < 65536) : ∀ k, gk k g < 65536
  | 0 => h
  | k + 1 => Nat.xor_lt_two_pow (n := 16) (gk_lt h k) (Nat.lt_of_le_of_lt (Nat.div_le_self _ _) (gk_lt h k))
theorem fromG_all (g : Nat) : fromG g = g ^^^ fromG (g / 2) := by
  by_cases z : g = 0
  · subst z; rw [Nat.zero_div, fromG_zero]; rfl
  · exact fromG_step z
/-- Two, four, eight, sixteen halves at once. -/
theorem fromG_two (g : Nat) : fromG g = gk 1 g ^^^ fromG (g / 4) := by
  rw [fromG_all g, fromG_all (g / 2), Nat.div_div_eq_div_mul, ← Nat.xor_assoc]
  rfl
theorem div_xor (a b k : Nat) : (a ^^^ b) / 2 ^ k = a / 2 ^ k ^^^ b / 2 ^ k := by
  rw [← Nat.shiftRight_eq_div_pow, ← Nat.shiftRight_eq_div_pow, ← Nat.shiftRight_eq_div_pow, Nat.shiftRight_xor_distrib]
theorem gk_div (k m g : Nat) : gk k (g / 2 ^ m) = gk k g / 2 ^ m := by
  induction k with
  | zero => rfl
  | succ k ih =>
    show gk k (g / 2 ^ m) ^^^ gk k (g / 2 ^ m) / 2 ^ 2 ^ k = (gk k g ^^^ gk k g / 2 ^ 2 ^ k) / 2 ^ m
    rw [ih, div_xor, Nat.div_div_eq_div_mul, Nat.div_div_eq_div_mul, Nat.mul_comm]
theorem fromG_pow : ∀ (k g : Nat), fromG g = gk k g ^^^ fromG (g / 2 ^ 2 ^ k) := by
  intro k
  induction k with
  | zero => intro g; exact fromG_all g
  | succ k ih =>
    intro g
    rw [ih g, ih (g / 2 ^ 2 ^ k), gk_div, ← Nat.xor_assoc, Nat.div_div_eq_div_mul, ← Nat.pow_add, ← Nat.two_mul, ← Nat.pow_succ']
    rfl
theorem gk_from {g : Nat} (h : g < 65536) : gk 4 g = fromG g := by
  have e := fromG_pow 4 g
  rw [show g / 2 ^ 2 ^ 4 = 0 from Nat.div_eq_of_lt h, fromG_zero, Nat.xor_zero] at e
  exact e.symm
set_option maxRecDepth 20000 in
set_option maxHeartbeats 8000000 in
theorem implFrom_any (g : Int) (w : World) :
    Calls Try.prog 13 #[.int .i64 g] w fun e w' => e = .returned (.agg #[.int .i64 (fromK g), .int .i64 (fromV g)]) ∧ Below w.heap.size w w' := by
  have F : Hid (Blk (w.alloc (.cells #[.int .i64 0, .int .i64 0] 26)) w.heap.size [.int .i64 0, .int .i64 0]) := Blk.at_ w _ _ _ rfl
  have FB : Hid (Below w.heap.size w (w.alloc (.cells #[.int .i64 0, .int .i64 0] 26))) := (Below.refl _ _).alloc (Nat.le_refl _) _
  unfold fromK fromV
  cases h : isCount g
  · rw [if_neg (by decide), if_neg (by decide)]
    go_enter Try.func13, Try.ntmps13
    go_wp2_with (first | (go_at_call 31; refine (areCounts_one g _ _ (by simp)).mono ?_; rw [h]; rintro e w' ⟨rfl, hw⟩; obtain rfl := hw.symm; clear hw) | (refine store_blk [.int .i64 (3), .int .i64 (0)] 26 _ _ (by kernel_rfl) (by kernel_rfl) (by kernel_rfl) (F.out.alloc _) rfl rfl rfl rfl ?_))
    exact bodyPost_ret (v := .agg #[.int .i64 (3), .int .i64 (0)]) (((F.out.alloc _).row [.int .i64 (3), .int .i64 (0)]).res _ Try.results13 Try.underlying26 (by kernel_rfl) rfl) rfl ⟨rfl, below_row (FB.out.alloc (by simp) _) (Nat.le_refl _) _⟩
  · rw [if_pos rfl, if_pos rfl]
    obtain ⟨g1, g2⟩ := inB_iff.1 h
    obtain ⟨x0, hx0⟩ : ∃ x0 : Nat, g = (x0 : Int) := ⟨g.toNat, by omega⟩
    subst hx0
    have hlt : x0 < 65536 := by omega
    obtain ⟨R, hR⟩ : ∃ R, fromG x0 = R := ⟨_, rfl⟩
    rw [Int.toNat_natCast, hR]
    have HR : Hid (gk 4 x0 = R) := (gk_from hlt).trans hR
    clear g1 g2 hR
    go_enter Try.func13, Try.ntmps13
    go_wp2_with (go_at_call 31; refine (areCounts_one (x0 : Int) _ _ (by simp)).mono ?_; rw [h]; rintro e w' ⟨rfl, hw⟩; obtain rfl := hw.symm; clear hw)
    clear h
    obtain ⟨W0, hW0⟩ : ∃ W0, W0 = (w.alloc (.cells #[.int .i64 0, .int .i64 0] 26)).alloc (.cells #[.int .i64 (x0 : Int)] 2) := ⟨_, rfl⟩
    have F : Hid (Blk W0 w.heap.size [.int .i64 0, .int .i64 0]) := by rw [hW0]; exact F.out.alloc _
    have FB : Hid (Below w.heap.size w W0) := by rw [hW0]; exact FB.out.alloc (by simp) _
    rw [← hW0]
    clear hW0
    go_loopw [0, 3] (fun gg pp wr => ∃ k : Nat, k ≤ 4 ∧ gg = .int .i64 (gk k x0 : Nat) ∧ pp = .int .i64 ((2 ^ k : Nat) : Int) ∧ wr = W0) (fun _ pp _ => 16 - (intOf pp).toNat)
    case atStart => exact ⟨0, by omega, rfl, rfl, rfl⟩
    case round =>
      obtain ⟨k, hk, rfl, rfl, hw⟩ := hrel
      obtain rfl := hw.symm
      clear hw
      have hg := gk_lt hlt k
      obtain ⟨y, hy⟩ : ∃ y, gk k x0 = y := ⟨_, rfl⟩
      have HY : Hid (gk k x0 = y) := hy
      rw [hy] at hg ⊢
      clear hy
      by_cases k4 : k = 4
      · subst k4
        have HV : Hid ((y : Int) = (R : Nat)) := by show (y : Int) = _; rw [← HR.out, ← HY.out]
        go_wp2_with (refine store_blk [.int .i64 0, .int .i64 (y : Int)] 26 _ _ (by kernel_rfl) (by kernel_rfl) (by kernel_rfl) F.out rfl rfl rfl rfl ?_)
        exact bodyPost_ret (v := .agg #[.int .i64 0, .int .i64 (y : Int)]) ((F.out.row [.int .i64 0, .int .i64 (y : Int)]).res _ Try.results13 Try.underlying26 (by kernel_rfl) rfl) rfl ⟨ret_two2 rfl HV.out, below_row FB.out (Nat.le_refl _) _⟩
      rcases (show k = 0 ∨ k = 1 ∨ k = 2 ∨ k = 3 by omega) with rfl | rfl | rfl | rfl
      · have HE : Hid (bits BinOp.xor IntKind.i64 (y : Int) ((y : Int) / 2) = ((gk 1 x0 : Nat) : Int)) := by
          show bits BinOp.xor IntKind.i64 (y : Int) ((y : Int) / 2) = _
          have e := xor_nat (a := y) (b := y / 2) hg (Nat.lt_of_le_of_lt (Nat.div_le_self _ _) hg)
          rw [show ((y / 2 : Nat) : Int) = (y : Int) / 2 by omega] at e
          rw [e, ← HY.out]
          rfl
        go_wp2_with fail
        go_roundw
        case rel => exact ⟨1, by omega, by first | rw [HE.out] | (simp; exact HE.out), by simp, by first | rfl | trivial⟩
        case measure => simp [intOf]
      · have HE : Hid (bits BinOp.xor IntKind.i64 (y : Int) ((y : Int) / 4) = ((gk 2 x0 : Nat) : Int)) := by
          show bits BinOp.xor IntKind.i64 (y : Int) ((y : Int) / 4) = _
          have e := xor_nat (a := y) (b := y / 4) hg (Nat.lt_of_le_of_lt (Nat.div_le_self _ _) hg)
          rw [show ((y / 4 : Nat) : Int) = (y : Int) / 4 by omega] at e
          rw [e, ← HY.out]
          rfl
        go_wp2_with fail
        go_roundw
        case rel => exact ⟨2, by omega, by first | rw [HE.out] | (simp; exact HE.out), by simp, by first | rfl | trivial⟩
        case measure => simp [intOf]
      · have HE : Hid (bits BinOp.xor IntKind.i64 (y : Int) ((y : Int) / 16) = ((gk 3 x0 : Nat) : Int)) := by
          show bits BinOp.xor IntKind.i64 (y : Int) ((y : Int) / 16) = _
          have e := xor_nat (a := y) (b := y / 16) hg (Nat.lt_of_le_of_lt (Nat.div_le_self _ _) hg)
          rw [show ((y / 16 : Nat) : Int) = (y : Int) / 16 by omega] at e
          rw [e, ← HY.out]
          rfl
        go_wp2_with fail
        go_roundw
        case rel => exact ⟨3, by omega, by first | rw [HE.out] | (simp; exact HE.out), by simp, by first | rfl | trivial⟩
        case measure => simp [intOf]
      · have HE : Hid (bits BinOp.xor IntKind.i64 (y : Int) ((y : Int) / 256) = ((gk 4 x0 : Nat) : Int)) := by
          show bits BinOp.xor IntKind.i64 (y : Int) ((y : Int) / 256) = _
          have e := xor_nat (a := y) (b := y / 256) hg (Nat.lt_of_le_of_lt (Nat.div_le_self _ _) hg)
          rw [show ((y / 256 : Nat) : Int) = (y : Int) / 256 by omega] at e
          rw [e, ← HY.out]
          rfl
        go_wp2_with fail
        go_roundw
        case rel => exact ⟨4, by omega, by first | rw [HE.out] | (simp; exact HE.out), by simp, by first | rfl | trivial⟩
        case measure => simp [intOf]
set_option maxRecDepth 20000 in
set_option maxHeartbeats 8000000 in
theorem turnBetween_any (a b : Int) (ha : isCount a = true) (hb : isCount b = true) (w : World) :
    Calls Try.prog 35 #[.int .u16 a, .int .u16 b] w fun e w' => e = .returned (.int .i64 (turnP a b)) ∧ w' = w := by
  obtain ⟨a1, a2⟩ := inB_iff.1 ha
  obtain ⟨b1, b2⟩ := inB_iff.1 hb
  have HT : Hid (wrap64 (IntKind.i16.wrap (IntKind.u16.wrap (b - a))) = turnP a b) := turn_wrap a1 a2 b1 b2
  go_enter Try.func35, Try.ntmps35
  go_wp2
  go_ret
  exact ⟨ret_int HT.out, rfl⟩
theorem u16_in {x : Int} (h : isCount x = true) : IntKind.u16.wrap x = x := by
  obtain ⟨a1, a2⟩ := inB_iff.1 h
  simp [IntKind.wrap, IntKind.bits, IntKind.signed]
  omega
set_option maxRecDepth 20000 in
set_option maxHeartbeats 8000000 in
theorem implTurn_any (a b : Int) (w : World) :
    Calls Try.prog 18 #[.int .i64 a, .int .i64 b] w fun e w' => e = .returned (.agg #[.int .i64 (turnK a b), .int .i64 (turnV a b)]) ∧ Below w.heap.size w w' := by
  have F : Hid (Blk (w.alloc (.cells #[.int .i64 0, .int .i64 0] 26)) w.heap.size [.int .i64 0, .int .i64 0]) := Blk.at_ w _ _ _ rfl
  have FB : Hid (Below w.heap.size w (w.alloc (.cells #[.int .i64 0, .int .i64 0] 26))) := (Below.refl _ _).alloc (Nat.le_refl _) _
  obtain ⟨K, hK⟩ : ∃ K, turnK a b = K := ⟨_, rfl⟩
  obtain ⟨V, hV⟩ : ∃ V, turnV a b = V := ⟨_, rfl⟩
  rw [hK, hV]
  unfold turnK at hK
  unfold turnV at hV
  simp only [← Bool.and_eq_true] at hK hV
  cases h : (isCount a && isCount b)
  · rw [h] at hK hV
    have HK : Hid ((3 : Int) = K) := hK
    have HV : Hid ((0 : Int) = V) := hV
    clear hK hV
    go_enter Try.func18, Try.ntmps18
    go_wp2_with (first | (go_at_call 31; refine (areCounts_two a b _ _ (by simp) (by simp)).mono ?_; rw [h]; rintro e w' ⟨rfl, hw⟩; obtain rfl := hw.symm; clear hw) | (refine store_blk [.int .i64 (3), .int .i64 (0)] 26 _ _ (by kernel_rfl) (by kernel_rfl) (by kernel_rfl) (F.out.alloc _) rfl rfl rfl rfl ?_))
    exact bodyPost_ret (v := .agg #[.int .i64 (3), .int .i64 (0)]) (((F.out.alloc _).row [.int .i64 (3), .int .i64 (0)]).res _ Try.results18 Try.underlying26 (by kernel_rfl) rfl) rfl ⟨ret_two2 HK.out HV.out, below_row (FB.out.alloc (by simp) _) (Nat.le_refl _) _⟩
  · rw [h] at hK hV
    have HK : Hid ((0 : Int) = K) := hK
    have HV : Hid (turnP a b = V) := hV
    clear hK hV
    have h2 := (Bool.and_eq_true _ _).mp h
    have e1 := u16_in h2.1
    have e2 := u16_in h2.2
    go_enter Try.func18, Try.ntmps18
    go_wp2_with (first | (go_at_call 31; refine (areCounts_two a b _ _ (by simp) (by simp)).mono ?_; rw [h]; rintro e w' ⟨rfl, hw⟩; obtain rfl := hw.symm; clear hw) | (go_at_call 35; refine (turnBetween_any a b h2.1 h2.2 _).mono ?_; rw [HV.out]; rintro e w' ⟨rfl, hw⟩; obtain rfl := hw.symm; clear hw) | (refine store_blk [.int .i64 (0), .int .i64 (V)] 26 _ _ (by kernel_rfl) (by kernel_rfl) (by kernel_rfl) (F.out.alloc _) rfl rfl rfl rfl ?_))
    exact bodyPost_ret (v := .agg #[.int .i64 (0), .int .i64 (V)]) (((F.out.alloc _).row [.int .i64 (0), .int .i64 (V)]).res _ Try.results18 Try.underlying26 (by kernel_rfl) rfl) rfl ⟨ret_two2 HK.out rfl, below_row (FB.out.alloc (by simp) _) (Nat.le_refl _) _⟩
end Go.Proofs.Ytkpcolfbnkopkaa
