/-
  Means: the model and the program.
-/
import Derived.Test.YtnpnlckdggakmaaFlyU
import Derived.Test.YtnpnlckdggakmaaZonI
import Derived.Deep.DeepCutAuto
namespace Go.Proofs.Ytnpnlckdggakmaa
open Go.RowKit Pl
set_option linter.unusedSimpArgs false
set_option linter.unusedVariables false

theorem quotientUp_big (a b : Int) (h1 : 0 ≤ a) (h2 : a ≤ 100000000000000000) (h3 : 1 ≤ b) (h4 : b ≤ 1000) (w : World) :
    Calls Try.prog 37 #[.int .i64 a, .int .i64 b] w fun e w' => e = .returned (.int .i64 ((a + b - 1) / b)) ∧ w' = w := by
  have hb : (b == 0) = false := by simp; omega
  go_enter Try.func37, Try.ntmps37
  go_wp2
  go_ret
  exact ⟨rfl, rfl⟩
theorem l1Up_big (a b : Int) (h1 : 0 ≤ a) (h2 : a ≤ 100000000000000000) (h3 : 1 ≤ b) (h4 : b ≤ 1000) (w : World) :
    Calls Try.prog 42 #[.int .i64 a, .int .i64 b] w fun e w' => e = .returned (.int .i64 ((a + b - 1) / b)) ∧ w' = w := by
  have hb : (b == 0) = false := by simp; omega
  go_enter Try.func42, Try.ntmps42
  go_wp2
  go_ret
  exact ⟨rfl, rfl⟩
def bigA (l : List Int) : Bool := l.all (fun x => inB x 0 1000000000000000)
theorem bigA_get {l : List Int} (e : bigA l = true) {x : Int} (hx : x ∈ l) : 0 ≤ x ∧ x ≤ 1000000000000000 := inB_iff.1 (List.all_eq_true.1 e x hx)
theorem bigA_no {l : List Int} {i : Nat} {x : Int} (hx : l[i]? = some x) (c : inB x 0 1000000000000000 = false) : bigA l = false := by
  cases e : bigA l with
  | false => rfl
  | true => rw [List.all_eq_true.1 e x (List.mem_of_getElem? hx)] at c; cases c
theorem bigA_all {l : List Int} (c : ∀ (i : Nat) (x : Int), l[i]? = some x → inB x 0 1000000000000000 = true) : bigA l = true := by
  refine List.all_eq_true.2 fun x hx => ?_
  obtain ⟨i, hi⟩ := List.getElem?_of_mem hx
  exact c i x hi
/-- The sum of the first numbers, where each is within the bound. -/
theorem sumF_firsts {l : List Int} {i : Nat} (c : ∀ (j : Nat) (x : Int), j < i → l[j]? = some x → inB x 0 1000000000000000 = true) : 0 ≤ sumF l i ∧ sumF l i ≤ 1000000000000000 * (i : Int) := by
  induction i with
  | zero => simp [sumF]
  | succ i ih =>
    have a := ih fun j x hj hx => c j x (by omega) hx
    have b : 0 ≤ lg l i ∧ lg l i ≤ 1000000000000000 := by
      cases e : l[i]? with
      | none => unfold lg; rw [List.getD_eq_getElem?_getD, e]; exact ⟨Int.le_refl _, by simp⟩
      | some x => rw [lg_of e]; exact inB_iff.1 (c i x (by omega) e)
    rw [sumF]; omega
def meanK (l : List Int) : Int := if l.length = 0 then 4 else if l.length ≤ 60 then (if bigA l = true then 0 else 3) else 2
def meanV (l : List Int) : Int := if meanK l = 0 then (sumF l l.length + (l.length : Int) - 1) / (l.length : Int) else 0
set_option maxRecDepth 20000 in
set_option maxHeartbeats 16000000 in
theorem specMeanUp_any (l : List Int) (a : Option Addr) (cap : Nat) (hl : l.length ≤ 1048576) (w : World) (hI : IIn w a l) :
    Calls Try.prog 18 #[.slice a l.length cap] w (isAns w (meanK l) (meanV l)) := by
  have HI : Hid (IIn w a l) := hI
  obtain ⟨K, hK⟩ : ∃ K, meanK l = K := ⟨_, rfl⟩
  obtain ⟨V, hV⟩ : ∃ V, meanV l = V := ⟨_, rfl⟩
  rw [hK, hV]
  have HK : Hid (meanK l = K) := hK
  have HV : Hid (meanV l = V) := hV
  clear hK hV hI
  obtain ⟨b1, hb1⟩ : ∃ b1, b1 = w.heap.size := ⟨_, rfl⟩
  obtain ⟨W0, hW0⟩ : ∃ W0, W0 = w.alloc (.cells #[.int .i64 0, .int .i64 0] 40) := ⟨_, rfl⟩
  have F1 : Hid (Blk W0 b1 [.int .i64 0, .int .i64 0]) := by rw [hW0]; exact (Blk.at_ _ #[.int .i64 0, .int .i64 0] _ _ hb1)
  have FB : Hid (Below w.heap.size w W0) := by rw [hW0]; exact ((Below.refl _ _).alloc (Nat.le_refl _) _)
  have leb1 : w.heap.size ≤ b1 := by omega
  go_enter Try.func18, Try.ntmps18
  go_upto_region 1 with fail
  rw [← hb1, ← hW0]
  clear hb1 hW0
  by_cases h0 : l.length = 0
  case pos =>
    have dn : ((l.length : Int) == 0) = true := by simpa using h0
    have HZ : Hid (4 = K ∧ 0 = V) := by
      have z : (4 : Int) = K := by rw [← HK.out]; unfold meanK; rw [if_pos h0]
      exact ⟨z, by rw [← HV.out]; unfold meanV; rw [HK.out, ← z, if_neg (by decide)]⟩
    go_wp2_with (refine store_blk [.int .i64 4, .int .i64 0] 40 _ _ (by kernel_rfl) (by kernel_rfl) (by kernel_rfl) F1.out rfl rfl rfl rfl ?_)
    exact bodyPost_ret (v := .agg #[.int .i64 4, .int .i64 0]) ((F1.out.row [.int .i64 4, .int .i64 0]).res _ Try.results18 Try.underlying40 (by kernel_rfl) rfl) rfl ⟨ret_twoF HZ.out.1 HZ.out.2, below_row FB.out leb1 _⟩
  case neg =>
  have dn : ((l.length : Int) == 0) = false := by simpa using h0
  by_cases h60 : l.length ≤ 60
  case neg =>
    have dn2 : decide ((60 : Int) < (l.length : Int)) = true := decide_eq_true (by omega)
    have HZ : Hid (2 = K ∧ 0 = V) := by
      have z : (2 : Int) = K := by rw [← HK.out]; unfold meanK; rw [if_neg h0, if_neg h60]
      exact ⟨z, by rw [← HV.out]; unfold meanV; rw [HK.out, ← z, if_neg (by decide)]⟩
    go_wp2_with (refine store_blk [.int .i64 2, .int .i64 0] 40 _ _ (by kernel_rfl) (by kernel_rfl) (by kernel_rfl) F1.out rfl rfl rfl rfl ?_)
    exact bodyPost_ret (v := .agg #[.int .i64 2, .int .i64 0]) ((F1.out.row [.int .i64 2, .int .i64 0]).res _ Try.results18 Try.underlying40 (by kernel_rfl) rfl) rfl ⟨ret_twoF HZ.out.1 HZ.out.2, below_row FB.out leb1 _⟩
  case pos =>
  have dn2 : decide ((60 : Int) < (l.length : Int)) = false := decide_eq_false (by omega)
  have HKA : Hid ((if bigA l = true then 0 else 3) = K) := by show _ = K; rw [← HK.out]; unfold meanK; rw [if_neg h0, if_pos h60]
  have HVA : Hid (K = 0 → (sumF l l.length + (l.length : Int) - 1) / (l.length : Int) = V) := fun z => by rw [← HV.out]; unfold meanV; rw [HK.out, z, if_pos rfl]
  have HVB : Hid (K = 3 → 0 = V) := fun z => by rw [← HV.out]; unfold meanV; rw [HK.out, z, if_neg (by decide)]
  have hne : ¬ l = [] := fun e => h0 (by rw [e]; rfl)
  have HN0 : Hid (¬ l.length = 0) := h0
  clear HK HV hl h0
  go_wp2_with fail
  go_loopw [3, 4] (fun nn ii wr => ∃ (i : Nat), nn = .int .i64 (sumF l i) ∧ ii = .int .i64 (i : Int) ∧ i ≤ l.length ∧ (∀ (j : Nat) (x : Int), j < i → l[j]? = some x → inB x 0 1000000000000000 = true) ∧ Blk wr b1 [.int .i64 0, .int .i64 0] ∧ Below w.heap.size w wr) (fun _ ii _ => l.length - (intOf ii).toNat)
  case atStart => exact ⟨0, rfl, rfl, by omega, fun j x hj => by omega, F1.out, FB.out⟩
  case round =>
    obtain ⟨i, rfl, rfl, hi, hall, h_F1, hB⟩ := hrel
    clear F1 FB
    have F1 : Hid (Blk wr b1 [.int .i64 0, .int .i64 0]) := h_F1
    have FB : Hid (Below w.heap.size w wr) := hB
    clear h_F1 hB
    have HAL : Hid (∀ (j : Nat) (x : Int), j < i → l[j]? = some x → inB x 0 1000000000000000 = true) := hall
    have bs := sumF_firsts hall
    clear hall
    by_cases hlt : i < l.length
    · have hlt' : decide ((i : Int) < (l.length : Int)) = true := decide_eq_true (by omega)
      obtain ⟨x, hx⟩ : ∃ x, l[i]? = some x := ⟨_, List.getElem?_eq_getElem hlt⟩
      have HX : Hid (l[i]? = some x) := hx
      have HE : Hid (sumF l (i + 1) = sumF l i + x) := by show _ = _; rw [sumF, lg_of hx]
      rcases HI.out with hnil | ⟨g, rfl, hg, hcl⟩
      · rw [hnil] at hlt; simp at hlt
      have cx := (FB.out.cell (p := ⟨g, i, none⟩) hg).trans (hcl i x hx)
      clear hx hcl
      cases hin : inB x 0 1000000000000000 with
      | false =>
        have fz := bigA_no HX.out hin
        have z3 : (3 : Int) = K := by rw [← HKA.out, fz]; rfl
        have HZ : Hid (3 = K ∧ 0 = V) := ⟨z3, HVB.out z3.symm⟩
        clear fz z3
        go_wp2_with (first | (go_at_call 41; refine (l1In_any x 0 1000000000000000 _).mono ?_; rw [hin]; rintro e w' ⟨rfl, hw⟩; obtain rfl := hw.symm; clear hw) | (refine store_blk [.int .i64 3, .int .i64 0] 40 _ _ (by kernel_rfl) (by kernel_rfl) (by kernel_rfl) F1.out rfl rfl rfl rfl ?_))
        exact bodyPost_ret (v := .agg #[.int .i64 3, .int .i64 0]) ((F1.out.row [.int .i64 3, .int .i64 0]).res _ Try.results18 Try.underlying40 (by kernel_rfl) rfl) rfl ⟨ret_twoF HZ.out.1 HZ.out.2, below_row FB.out leb1 _⟩
      | true =>
        have bx := inB_iff.1 hin
        have HIN : Hid (inB x 0 1000000000000000 = true) := hin
        obtain ⟨S, hS⟩ : ∃ S, sumF l i = S := ⟨_, rfl⟩
        rw [hS] at bs HE ⊢
        have ew : IntKind.i64.wrap (S + x) = S + x := IntWalk.i64_in _ (by omega)
        clear hS
        go_wp2_with (go_at_call 41; refine (l1In_any x 0 1000000000000000 _).mono ?_; rw [hin]; rintro e w' ⟨rfl, hw⟩; obtain rfl := hw.symm; clear hw)
        go_roundw
        case rel => exact ⟨i + 1, by rw [HE.out], by simp, by omega, alls_step (P := fun z => inB z 0 1000000000000000 = true) HAL.out HX.out HIN.out, F1.out, FB.out⟩
        case measure => simp [intOf]; omega
    · have hlt' : decide ((i : Int) < (l.length : Int)) = false := decide_eq_false (by omega)
      have e : i = l.length := by omega
      have fy : bigA l = true := bigA_all fun j z hz => HAL.out j z (by have := (List.getElem?_eq_some_iff.1 hz).1; omega) hz
      have z0 : (0 : Int) = K := by rw [← HKA.out, if_pos fy]
      have HZ : Hid (0 = K ∧ (sumF l l.length + (l.length : Int) - 1) / (l.length : Int) = V) := ⟨z0, HVA.out z0.symm⟩
      have HBG : Hid (∀ x ∈ l, 0 ≤ x ∧ x ≤ 1000000000000000) := fun x hx => bigA_get fy hx
      subst e
      have l1 : 1 ≤ (l.length : Int) := by have := HN0.out; omega
      have l2 : (l.length : Int) ≤ 60 := by omega
      clear fy z0 HKA HVA HVB
      have bq := bs
      have CU : ∀ W, Calls Try.prog 42 #[.int .i64 (sumF l l.length), .int .i64 (l.length : Int)] W fun e w' => e = .returned (.int .i64 ((sumF l l.length + (l.length : Int) - 1) / (l.length : Int))) ∧ w' = W := fun W => l1Up_big _ _ (by omega) (by omega) (by omega) (by omega) W
      obtain ⟨Q, hQ⟩ : ∃ Q, (sumF l l.length + (l.length : Int) - 1) / (l.length : Int) = Q := ⟨_, rfl⟩
      rw [hQ] at CU HZ
      clear hQ
      go_wp2_with (first | (go_at_call 42; refine (CU _).mono ?_; rintro e w' ⟨rfl, hw⟩; obtain rfl := hw.symm; clear hw) | (refine store_blk [.int .i64 0, .int .i64 Q] 40 _ _ (by kernel_rfl) (by kernel_rfl) (by kernel_rfl) F1.out rfl rfl rfl rfl ?_))
      exact bodyPost_ret (v := .agg #[.int .i64 0, .int .i64 Q]) ((F1.out.row [.int .i64 0, .int .i64 Q]).res _ Try.results18 Try.underlying40 (by kernel_rfl) rfl) rfl ⟨ret_twoF HZ.out.1 HZ.out.2, below_row FB.out leb1 _⟩
set_option maxRecDepth 20000 in
set_option maxHeartbeats 16000000 in
theorem implMeanUp_any (l : List Int) (a : Option Addr) (cap : Nat) (hl : l.length ≤ 1048576) (w : World) (hI : IIn w a l) :
    Calls Try.prog 17 #[.slice a l.length cap] w (isAns w (meanK l) (meanV l)) := by
  have HI : Hid (IIn w a l) := hI
  obtain ⟨K, hK⟩ : ∃ K, meanK l = K := ⟨_, rfl⟩
  obtain ⟨V, hV⟩ : ∃ V, meanV l = V := ⟨_, rfl⟩
  rw [hK, hV]
  have HK : Hid (meanK l = K) := hK
  have HV : Hid (meanV l = V) := hV
  clear hK hV hI
  obtain ⟨b1, hb1⟩ : ∃ b1, b1 = w.heap.size := ⟨_, rfl⟩
  obtain ⟨W0, hW0⟩ : ∃ W0, W0 = w.alloc (.cells #[.int .i64 0, .int .i64 0] 40) := ⟨_, rfl⟩
  have F1 : Hid (Blk W0 b1 [.int .i64 0, .int .i64 0]) := by rw [hW0]; exact (Blk.at_ _ #[.int .i64 0, .int .i64 0] _ _ hb1)
  have FB : Hid (Below w.heap.size w W0) := by rw [hW0]; exact ((Below.refl _ _).alloc (Nat.le_refl _) _)
  have leb1 : w.heap.size ≤ b1 := by omega
  go_enter Try.func17, Try.ntmps17
  go_upto_region 1 with fail
  rw [← hb1, ← hW0]
  clear hb1 hW0
  by_cases h0 : l.length = 0
  case pos =>
    have dn : ((l.length : Int) == 0) = true := by simpa using h0
    have HZ : Hid (4 = K ∧ 0 = V) := by
      have z : (4 : Int) = K := by rw [← HK.out]; unfold meanK; rw [if_pos h0]
      exact ⟨z, by rw [← HV.out]; unfold meanV; rw [HK.out, ← z, if_neg (by decide)]⟩
    go_wp2_with (refine store_blk [.int .i64 4, .int .i64 0] 40 _ _ (by kernel_rfl) (by kernel_rfl) (by kernel_rfl) F1.out rfl rfl rfl rfl ?_)
    exact bodyPost_ret (v := .agg #[.int .i64 4, .int .i64 0]) ((F1.out.row [.int .i64 4, .int .i64 0]).res _ Try.results17 Try.underlying40 (by kernel_rfl) rfl) rfl ⟨ret_twoF HZ.out.1 HZ.out.2, below_row FB.out leb1 _⟩
  case neg =>
  have dn : ((l.length : Int) == 0) = false := by simpa using h0
  by_cases h60 : l.length ≤ 60
  case neg =>
    have dn2 : decide ((60 : Int) < (l.length : Int)) = true := decide_eq_true (by omega)
    have HZ : Hid (2 = K ∧ 0 = V) := by
      have z : (2 : Int) = K := by rw [← HK.out]; unfold meanK; rw [if_neg h0, if_neg h60]
      exact ⟨z, by rw [← HV.out]; unfold meanV; rw [HK.out, ← z, if_neg (by decide)]⟩
    go_wp2_with (refine store_blk [.int .i64 2, .int .i64 0] 40 _ _ (by kernel_rfl) (by kernel_rfl) (by kernel_rfl) F1.out rfl rfl rfl rfl ?_)
    exact bodyPost_ret (v := .agg #[.int .i64 2, .int .i64 0]) ((F1.out.row [.int .i64 2, .int .i64 0]).res _ Try.results17 Try.underlying40 (by kernel_rfl) rfl) rfl ⟨ret_twoF HZ.out.1 HZ.out.2, below_row FB.out leb1 _⟩
  case pos =>
  have dn2 : decide ((60 : Int) < (l.length : Int)) = false := decide_eq_false (by omega)
  have HKA : Hid ((if bigA l = true then 0 else 3) = K) := by show _ = K; rw [← HK.out]; unfold meanK; rw [if_neg h0, if_pos h60]
  have HVA : Hid (K = 0 → (sumF l l.length + (l.length : Int) - 1) / (l.length : Int) = V) := fun z => by rw [← HV.out]; unfold meanV; rw [HK.out, z, if_pos rfl]
  have HVB : Hid (K = 3 → 0 = V) := fun z => by rw [← HV.out]; unfold meanV; rw [HK.out, z, if_neg (by decide)]
  have hne : ¬ l = [] := fun e => h0 (by rw [e]; rfl)
  have HN0 : Hid (¬ l.length = 0) := h0
  clear HK HV hl h0
  go_wp2_with fail
  go_loopw [16] (fun ii wr => ∃ (i : Nat), ii = .int .i64 (i : Int) ∧ i ≤ l.length ∧ (∀ (j : Nat) (x : Int), j < i → l[j]? = some x → inB x 0 1000000000000000 = true) ∧ Blk wr b1 [.int .i64 0, .int .i64 0] ∧ Below w.heap.size w wr) (fun ii _ => l.length - (intOf ii).toNat)
  case atStart => exact ⟨0, rfl, by omega, fun j x hj => by omega, F1.out, FB.out⟩
  case round =>
    obtain ⟨i, rfl, hi, hall, h_F1, hB⟩ := hrel
    clear F1 FB
    have F1 : Hid (Blk wr b1 [.int .i64 0, .int .i64 0]) := h_F1
    have FB : Hid (Below w.heap.size w wr) := hB
    clear h_F1 hB
    have HAL : Hid (∀ (j : Nat) (x : Int), j < i → l[j]? = some x → inB x 0 1000000000000000 = true) := hall
    have bs := sumF_firsts hall
    clear hall
    by_cases hlt : i < l.length
    · have hlt' : decide ((i : Int) < (l.length : Int)) = true := decide_eq_true (by omega)
      obtain ⟨x, hx⟩ : ∃ x, l[i]? = some x := ⟨_, List.getElem?_eq_getElem hlt⟩
      have HX : Hid (l[i]? = some x) := hx
      have HE : Hid (sumF l (i + 1) = sumF l i + x) := by show _ = _; rw [sumF, lg_of hx]
      rcases HI.out with hnil | ⟨g, rfl, hg, hcl⟩
      · rw [hnil] at hlt; simp at hlt
      have cx := (FB.out.cell (p := ⟨g, i, none⟩) hg).trans (hcl i x hx)
      clear hx hcl
      cases hin : inB x 0 1000000000000000 with
      | false =>
        have fz := bigA_no HX.out hin
        have z3 : (3 : Int) = K := by rw [← HKA.out, fz]; rfl
        have HZ : Hid (3 = K ∧ 0 = V) := ⟨z3, HVB.out z3.symm⟩
        clear fz z3
        go_wp2_with (first | (go_at_call 36; refine (isWithin_any x 0 1000000000000000 _).mono ?_; rw [hin]; rintro e w' ⟨rfl, hw⟩; obtain rfl := hw.symm; clear hw) | (refine store_blk [.int .i64 3, .int .i64 0] 40 _ _ (by kernel_rfl) (by kernel_rfl) (by kernel_rfl) F1.out rfl rfl rfl rfl ?_))
        exact bodyPost_ret (v := .agg #[.int .i64 3, .int .i64 0]) ((F1.out.row [.int .i64 3, .int .i64 0]).res _ Try.results17 Try.underlying40 (by kernel_rfl) rfl) rfl ⟨ret_twoF HZ.out.1 HZ.out.2, below_row FB.out leb1 _⟩
      | true =>
        have bx := inB_iff.1 hin
        have HIN : Hid (inB x 0 1000000000000000 = true) := hin
        go_wp2_with (go_at_call 36; refine (isWithin_any x 0 1000000000000000 _).mono ?_; rw [hin]; rintro e w' ⟨rfl, hw⟩; obtain rfl := hw.symm; clear hw)
        go_roundw
        case rel => exact ⟨i + 1, by simp, by omega, alls_step (P := fun z => inB z 0 1000000000000000 = true) HAL.out HX.out HIN.out, F1.out, FB.out⟩
        case measure => simp [intOf]; omega
    · have hlt' : decide ((i : Int) < (l.length : Int)) = false := decide_eq_false (by omega)
      have e : i = l.length := by omega
      have fy : bigA l = true := bigA_all fun j z hz => HAL.out j z (by have := (List.getElem?_eq_some_iff.1 hz).1; omega) hz
      have z0 : (0 : Int) = K := by rw [← HKA.out, if_pos fy]
      have HZ : Hid (0 = K ∧ (sumF l l.length + (l.length : Int) - 1) / (l.length : Int) = V) := ⟨z0, HVA.out z0.symm⟩
      have HBG : Hid (∀ x ∈ l, 0 ≤ x ∧ x ≤ 1000000000000000) := fun x hx => bigA_get fy hx
      subst e
      have l1 : 1 ≤ (l.length : Int) := by have := HN0.out; omega
      have l2 : (l.length : Int) ≤ 60 := by omega
      clear fy z0 HKA HVA HVB
      have bq := bs
      have CT : ∀ W, IIn W a l → Calls Try.prog 52 #[.slice a l.length cap] W (isAns W (l.length : Int) (sumF l l.length)) := fun W hW => tallyOf_any l a cap h60 HBG.out W hW
      have CU : ∀ W, Calls Try.prog 37 #[.int .i64 (sumF l l.length), .int .i64 (l.length : Int)] W fun e w' => e = .returned (.int .i64 ((sumF l l.length + (l.length : Int) - 1) / (l.length : Int))) ∧ w' = W := fun W => quotientUp_big _ _ (by omega) (by omega) (by omega) (by omega) W
      obtain ⟨Q, hQ⟩ : ∃ Q, (sumF l l.length + (l.length : Int) - 1) / (l.length : Int) = Q := ⟨_, rfl⟩
      rw [hQ] at CU HZ
      clear hQ
      obtain ⟨S, hS⟩ : ∃ S, sumF l l.length = S := ⟨_, rfl⟩
      rw [hS] at CU CT
      clear hS bs bq
      go_upto_region 12 with (first | (go_at_call 52; refine (CT _ (HI.out.below FB.out)).mono ?_; rintro e w5 ⟨rfl, hb⟩; have F1 : Hid (Blk w5 b1 [.int .i64 0, .int .i64 0]) := F1.out.below hb F1.out.lt; have FB : Hid (Below w.heap.size w w5) := FB.out.trans (hb.mono FB.out.size); clear hb) | (refine store_new [.int .i64 ((l.length : Int)), .int .i64 S] 74 _ _ (by kernel_rfl) (by kernel_rfl) (by kernel_rfl) rfl rfl rfl rfl ?_))
      have FB0 := FB
      obtain ⟨b2, hbb⟩ : ∃ b2, b2 = w5.heap.size := ⟨_, rfl⟩
      obtain ⟨w6, hw2⟩ : ∃ w6, w6 = w5.alloc (.cells #[.int .i64 ((l.length : Int)), .int .i64 S] 74) := ⟨_, rfl⟩
      have nb2b1 : b1 < b2 := by rw [hbb]; exact F1.out.lt
      have F1 : Hid (Blk w6 b1 [.int .i64 0, .int .i64 0]) := by rw [hw2]; exact F1.out.alloc _
      have F2 : Hid (Blk w6 b2 [.int .i64 ((l.length : Int)), .int .i64 S]) := by rw [hw2]; exact Blk.at_ w5 #[.int .i64 ((l.length : Int)), .int .i64 S] _ _ hbb
      have FB : Hid (Below w.heap.size w w6) := by rw [hw2]; exact FB.out.alloc FB.out.size _
      have leb2 : w.heap.size ≤ b2 := by rw [hbb]; exact FB0.out.size
      rw [← hw2, ← hbb]
      clear hbb hw2 FB0
      have x0 := F2.out.c 0 _ rfl
      have x1 := F2.out.c 1 _ rfl
      go_wp2_with (first | (go_at_call 37; refine (CU _).mono ?_; rintro e w' ⟨rfl, hw⟩; obtain rfl := hw.symm; clear hw) | (refine store_blk [.int .i64 0, .int .i64 Q] 40 _ _ (by kernel_rfl) (by kernel_rfl) (by kernel_rfl) F1.out rfl rfl rfl rfl ?_))
      exact bodyPost_ret (v := .agg #[.int .i64 0, .int .i64 Q]) ((F1.out.row [.int .i64 0, .int .i64 Q]).res _ Try.results17 Try.underlying40 (by kernel_rfl) rfl) rfl ⟨ret_twoF HZ.out.1 HZ.out.2, below_row FB.out leb1 _⟩
end Go.Proofs.Ytnpnlckdggakmaa
