/-
  Sensors: the middle of three (the model).
-/
import Derived.Test.YtemiefpkphfpgaaSenB
import Derived.Test.YtemiefpkphfpgaaCarS
namespace Go.Proofs.Ytemiefpkphfpgaa
open Go.RowKit Pl
set_option linter.unusedSimpArgs false
set_option linter.unusedVariables false

def absI (x : Int) : Int := if x < 0 then -x else x
def midI (a b c : Int) : Int := max (min a b) (min (max a b) c)
def okV (a b c m : Int) : Bool := inB a (-1000000000000000) 1000000000000000 && (inB b (-1000000000000000) 1000000000000000 && (inB c (-1000000000000000) 1000000000000000 && inB m 0 1000000000000000))
/-- Are two of them within m of one another? -/
def anyN (a b c m : Int) : Bool := !(decide (m < absI (a - b))) || (!(decide (m < absI (a - c))) || !(decide (m < absI (b - c))))
def voteK (a b c m : Int) : Int := if okV a b c m = true then (if anyN a b c m = true then 0 else 1) else 3
def voteV (a b c m : Int) : Int := if voteK a b c m = 0 then midI a b c else 0
theorem ret_two {a b c d : Int} (h : a = b) (k : c = d) : Ending.returned (.agg #[.int .i64 a, .int .i64 c]) = .returned (.agg #[.int .i64 b, .int .i64 d]) := by rw [h, k]
set_option maxRecDepth 20000 in
set_option maxHeartbeats 8000000 in
theorem l1AbsV_any (a : Int) (h1 : -9000000000000000000 ≤ a) (h2 : a ≤ 9000000000000000000) (w : World) :
    Calls Try.prog 22 #[.int .i64 a] w fun e w' => e = .returned (.int .i64 (absI a)) ∧ w' = w := by
  unfold absI
  have ew : IntKind.i64.wrap (-a) = -a := IntWalk.i64_in _ (by omega)
  by_cases c : a < 0
  · rw [if_pos c]
    go_enter Try.func22, Try.ntmps22
    go_wp2
    go_ret
    exact ⟨rfl, rfl⟩
  · rw [if_neg c]
    go_enter Try.func22, Try.ntmps22
    go_wp2
    go_ret
    exact ⟨rfl, rfl⟩
theorem u64_in {x : Int} (h1 : 0 ≤ x) (h2 : x < 18446744073709551616) : IntKind.u64.wrap x = x := by
  simp [IntKind.wrap, IntKind.bits, IntKind.signed]
  omega
set_option maxRecDepth 20000 in
set_option maxHeartbeats 8000000 in
theorem l1SizeV_any (n : Int) (h1 : -9223372036854775808 ≤ n) (h2 : n ≤ 9223372036854775807) (w : World) :
    Calls Try.prog 20 #[.int .i64 n] w fun e w' => e = .returned (.int .u64 (absI n)) ∧ w' = w := by
  unfold absI
  by_cases c : n < 0
  · rw [if_pos c]
    have e1 : IntKind.i64.wrap (n + 1) = n + 1 := IntWalk.i64_in _ (by omega)
    have e2 : IntKind.i64.wrap (-(n + 1)) = -(n + 1) := IntWalk.i64_in _ (by omega)
    have e3 : IntKind.u64.wrap (-(n + 1)) = -(n + 1) := u64_in (by omega) (by omega)
    have e4 : IntKind.u64.wrap (-(n + 1) + 1) = -n := (u64_in (by omega) (by omega)).trans (by omega)
    go_enter Try.func20, Try.ntmps20
    go_wp2
    go_ret
    exact ⟨rfl, rfl⟩
  · rw [if_neg c]
    have e3 : IntKind.u64.wrap n = n := u64_in (by omega) (by omega)
    go_enter Try.func20, Try.ntmps20
    go_wp2
    go_ret
    exact ⟨rfl, rfl⟩
set_option maxRecDepth 20000 in
set_option maxHeartbeats 8000000 in
theorem l11Middle_any (a b c : Int) (w : World) :
    Calls Try.prog 23 #[.int .i64 a, .int .i64 b, .int .i64 c] w fun e w' => e = .returned (.int .i64 (midI a b c)) ∧ w' = w := by
  unfold midI
  go_enter Try.func23, Try.ntmps23
  go_wp2_with (first | (go_at_call 42; refine (l1Min_any _ _ _).mono ?_; rintro e w' ⟨rfl, hw⟩; obtain rfl := hw.symm; clear hw) | (go_at_call 41; refine (l1Max_any _ _ _).mono ?_; rintro e w' ⟨rfl, hw⟩; obtain rfl := hw.symm; clear hw))
  go_ret
  exact ⟨rfl, rfl⟩
theorem abs_out {a : Int} (h : inB a (-1000000000000000) 1000000000000000 = false) : decide ((1000000000000000 : Int) < absI a) = true := by
  refine decide_eq_true ?_
  have : ¬ (-1000000000000000 ≤ a ∧ a ≤ 1000000000000000) := fun z => by rw [inB_iff.2 z] at h; cases h
  unfold absI
  split <;> omega
theorem abs_in {a : Int} (h : inB a (-1000000000000000) 1000000000000000 = true) : decide ((1000000000000000 : Int) < absI a) = false := by
  refine decide_eq_false ?_
  have := inB_iff.1 h
  unfold absI
  split <;> omega
set_option maxRecDepth 20000 in
set_option maxHeartbeats 16000000 in
theorem specVote_any (a b c m : Int) (a1 : -9223372036854775808 ≤ a) (a2 : a ≤ 9223372036854775807) (b1 : -9223372036854775808 ≤ b) (b2 : b ≤ 9223372036854775807) (c1 : -9223372036854775808 ≤ c) (c2 : c ≤ 9223372036854775807) (w : World) :
    Calls Try.prog 11 #[.int .i64 a, .int .i64 b, .int .i64 c, .int .i64 m] w fun e w' => e = .returned (.agg #[.int .i64 (voteK a b c m), .int .i64 (voteV a b c m)]) ∧ Below w.heap.size w w' := by
  have F : Hid (Blk (w.alloc (.cells #[.int .i64 0, .int .i64 0] 40)) w.heap.size [.int .i64 0, .int .i64 0]) := Blk.at_ w _ _ _ rfl
  have FB : Hid (Below w.heap.size w (w.alloc (.cells #[.int .i64 0, .int .i64 0] 40))) := (Below.refl _ _).alloc (Nat.le_refl _) _
  obtain ⟨K, hK⟩ : ∃ K, voteK a b c m = K := ⟨_, rfl⟩
  obtain ⟨V, hV⟩ : ∃ V, voteV a b c m = V := ⟨_, rfl⟩
  rw [hK, hV]
  cases i1 : inB a (-1000000000000000) 1000000000000000
  · have d1 := abs_out i1
    have HK : Hid ((3 : Int) = K) := by show _ = K; rw [← hK]; simp [voteK, okV, anyN, *]
    have HV : Hid ((0 : Int) = V) := by show _ = V; rw [← hV]; simp [voteV, voteK, okV, anyN, *]
    clear hK hV
    go_enter Try.func11, Try.ntmps11
    go_wp2_with (first | (go_at_call 20; refine (l1SizeV_any _ (by assumption) (by assumption) _).mono ?_; rintro e w' ⟨rfl, hw⟩; obtain rfl := hw.symm; clear hw) | (go_at_call 21; refine (l1In_any _ _ _ _).mono ?_; rintro e w' ⟨rfl, hw⟩; obtain rfl := hw.symm; clear hw) | (go_at_call 22; refine (l1AbsV_any _ (by omega) (by omega) _).mono ?_; rintro e w' ⟨rfl, hw⟩; obtain rfl := hw.symm; clear hw) | (go_at_call 23; refine (l11Middle_any _ _ _ _).mono ?_; rintro e w' ⟨rfl, hw⟩; obtain rfl := hw.symm; clear hw) | (refine store_blk [.int .i64 3, .int .i64 0] 40 _ _ (by kernel_rfl) (by kernel_rfl) (by kernel_rfl) F.out rfl rfl rfl rfl ?_))
    exact bodyPost_ret (v := .agg #[.int .i64 3, .int .i64 0]) ((F.out.row [.int .i64 3, .int .i64 0]).res _ Try.results11 Try.underlying40 (by kernel_rfl) rfl) rfl ⟨ret_two HK.out HV.out, below_row FB.out (Nat.le_refl _) _⟩
  have d1 := abs_in i1
  cases i2 : inB b (-1000000000000000) 1000000000000000
  · have d2 := abs_out i2
    have HK : Hid ((3 : Int) = K) := by show _ = K; rw [← hK]; simp [voteK, okV, anyN, *]
    have HV : Hid ((0 : Int) = V) := by show _ = V; rw [← hV]; simp [voteV, voteK, okV, anyN, *]
    clear hK hV
    go_enter Try.func11, Try.ntmps11
    go_wp2_with (first | (go_at_call 20; refine (l1SizeV_any _ (by assumption) (by assumption) _).mono ?_; rintro e w' ⟨rfl, hw⟩; obtain rfl := hw.symm; clear hw) | (go_at_call 21; refine (l1In_any _ _ _ _).mono ?_; rintro e w' ⟨rfl, hw⟩; obtain rfl := hw.symm; clear hw) | (go_at_call 22; refine (l1AbsV_any _ (by omega) (by omega) _).mono ?_; rintro e w' ⟨rfl, hw⟩; obtain rfl := hw.symm; clear hw) | (go_at_call 23; refine (l11Middle_any _ _ _ _).mono ?_; rintro e w' ⟨rfl, hw⟩; obtain rfl := hw.symm; clear hw) | (refine store_blk [.int .i64 3, .int .i64 0] 40 _ _ (by kernel_rfl) (by kernel_rfl) (by kernel_rfl) F.out rfl rfl rfl rfl ?_))
    exact bodyPost_ret (v := .agg #[.int .i64 3, .int .i64 0]) ((F.out.row [.int .i64 3, .int .i64 0]).res _ Try.results11 Try.underlying40 (by kernel_rfl) rfl) rfl ⟨ret_two HK.out HV.out, below_row FB.out (Nat.le_refl _) _⟩
  have d2 := abs_in i2
  cases i3 : inB c (-1000000000000000) 1000000000000000
  · have d3 := abs_out i3
    have HK : Hid ((3 : Int) = K) := by show _ = K; rw [← hK]; simp [voteK, okV, anyN, *]
    have HV : Hid ((0 : Int) = V) := by show _ = V; rw [← hV]; simp [voteV, voteK, okV, anyN, *]
    clear hK hV
    go_enter Try.func11, Try.ntmps11
    go_wp2_with (first | (go_at_call 20; refine (l1SizeV_any _ (by assumption) (by assumption) _).mono ?_; rintro e w' ⟨rfl, hw⟩; obtain rfl := hw.symm; clear hw) | (go_at_call 21; refine (l1In_any _ _ _ _).mono ?_; rintro e w' ⟨rfl, hw⟩; obtain rfl := hw.symm; clear hw) | (go_at_call 22; refine (l1AbsV_any _ (by omega) (by omega) _).mono ?_; rintro e w' ⟨rfl, hw⟩; obtain rfl := hw.symm; clear hw) | (go_at_call 23; refine (l11Middle_any _ _ _ _).mono ?_; rintro e w' ⟨rfl, hw⟩; obtain rfl := hw.symm; clear hw) | (refine store_blk [.int .i64 3, .int .i64 0] 40 _ _ (by kernel_rfl) (by kernel_rfl) (by kernel_rfl) F.out rfl rfl rfl rfl ?_))
    exact bodyPost_ret (v := .agg #[.int .i64 3, .int .i64 0]) ((F.out.row [.int .i64 3, .int .i64 0]).res _ Try.results11 Try.underlying40 (by kernel_rfl) rfl) rfl ⟨ret_two HK.out HV.out, below_row FB.out (Nat.le_refl _) _⟩
  have d3 := abs_in i3
  cases i4 : inB m 0 1000000000000000
  · have HK : Hid ((3 : Int) = K) := by show _ = K; rw [← hK]; simp [voteK, okV, anyN, *]
    have HV : Hid ((0 : Int) = V) := by show _ = V; rw [← hV]; simp [voteV, voteK, okV, anyN, *]
    clear hK hV
    go_enter Try.func11, Try.ntmps11
    go_wp2_with (first | (go_at_call 20; refine (l1SizeV_any _ (by assumption) (by assumption) _).mono ?_; rintro e w' ⟨rfl, hw⟩; obtain rfl := hw.symm; clear hw) | (go_at_call 21; refine (l1In_any _ _ _ _).mono ?_; rintro e w' ⟨rfl, hw⟩; obtain rfl := hw.symm; clear hw) | (go_at_call 22; refine (l1AbsV_any _ (by omega) (by omega) _).mono ?_; rintro e w' ⟨rfl, hw⟩; obtain rfl := hw.symm; clear hw) | (go_at_call 23; refine (l11Middle_any _ _ _ _).mono ?_; rintro e w' ⟨rfl, hw⟩; obtain rfl := hw.symm; clear hw) | (refine store_blk [.int .i64 3, .int .i64 0] 40 _ _ (by kernel_rfl) (by kernel_rfl) (by kernel_rfl) F.out rfl rfl rfl rfl ?_))
    exact bodyPost_ret (v := .agg #[.int .i64 3, .int .i64 0]) ((F.out.row [.int .i64 3, .int .i64 0]).res _ Try.results11 Try.underlying40 (by kernel_rfl) rfl) rfl ⟨ret_two HK.out HV.out, below_row FB.out (Nat.le_refl _) _⟩
  have q1 := inB_iff.1 i1
  have q2 := inB_iff.1 i2
  have q3 := inB_iff.1 i3
  have s1 : IntKind.i64.wrap (a - b) = a - b := IntWalk.i64_in _ (by omega)
  have s2 : IntKind.i64.wrap (a - c) = a - c := IntWalk.i64_in _ (by omega)
  have s3 : IntKind.i64.wrap (b - c) = b - c := IntWalk.i64_in _ (by omega)
  cases f1 : decide (m < absI (a - b))
  · have HK : Hid ((0 : Int) = K) := by show _ = K; rw [← hK]; simp [voteK, okV, anyN, *]
    have HV : Hid (((midI a b c) : Int) = V) := by show _ = V; rw [← hV]; simp [voteV, voteK, okV, anyN, *]
    clear hK hV
    go_enter Try.func11, Try.ntmps11
    go_wp2_with (first | (go_at_call 20; refine (l1SizeV_any _ (by assumption) (by assumption) _).mono ?_; rintro e w' ⟨rfl, hw⟩; obtain rfl := hw.symm; clear hw) | (go_at_call 21; refine (l1In_any _ _ _ _).mono ?_; rintro e w' ⟨rfl, hw⟩; obtain rfl := hw.symm; clear hw) | (go_at_call 22; refine (l1AbsV_any _ (by omega) (by omega) _).mono ?_; rintro e w' ⟨rfl, hw⟩; obtain rfl := hw.symm; clear hw) | (go_at_call 23; refine (l11Middle_any _ _ _ _).mono ?_; rintro e w' ⟨rfl, hw⟩; obtain rfl := hw.symm; clear hw) | (refine store_blk [.int .i64 0, .int .i64 (midI a b c)] 40 _ _ (by kernel_rfl) (by kernel_rfl) (by kernel_rfl) F.out rfl rfl rfl rfl ?_))
    exact bodyPost_ret (v := .agg #[.int .i64 0, .int .i64 (midI a b c)]) ((F.out.row [.int .i64 0, .int .i64 (midI a b c)]).res _ Try.results11 Try.underlying40 (by kernel_rfl) rfl) rfl ⟨ret_two HK.out HV.out, below_row FB.out (Nat.le_refl _) _⟩
  cases f2 : decide (m < absI (a - c))
  · have HK : Hid ((0 : Int) = K) := by show _ = K; rw [← hK]; simp [voteK, okV, anyN, *]
    have HV : Hid (((midI a b c) : Int) = V) := by show _ = V; rw [← hV]; simp [voteV, voteK, okV, anyN, *]
    clear hK hV
    go_enter Try.func11, Try.ntmps11
    go_wp2_with (first | (go_at_call 20; refine (l1SizeV_any _ (by assumption) (by assumption) _).mono ?_; rintro e w' ⟨rfl, hw⟩; obtain rfl := hw.symm; clear hw) | (go_at_call 21; refine (l1In_any _ _ _ _).mono ?_; rintro e w' ⟨rfl, hw⟩; obtain rfl := hw.symm; clear hw) | (go_at_call 22; refine (l1AbsV_any _ (by omega) (by omega) _).mono ?_; rintro e w' ⟨rfl, hw⟩; obtain rfl := hw.symm; clear hw) | (go_at_call 23; refine (l11Middle_any _ _ _ _).mono ?_; rintro e w' ⟨rfl, hw⟩; obtain rfl := hw.symm; clear hw) | (refine store_blk [.int .i64 0, .int .i64 (midI a b c)] 40 _ _ (by kernel_rfl) (by kernel_rfl) (by kernel_rfl) F.out rfl rfl rfl rfl ?_))
    exact bodyPost_ret (v := .agg #[.int .i64 0, .int .i64 (midI a b c)]) ((F.out.row [.int .i64 0, .int .i64 (midI a b c)]).res _ Try.results11 Try.underlying40 (by kernel_rfl) rfl) rfl ⟨ret_two HK.out HV.out, below_row FB.out (Nat.le_refl _) _⟩
  cases f3 : decide (m < absI (b - c))
  · have HK : Hid ((0 : Int) = K) := by show _ = K; rw [← hK]; simp [voteK, okV, anyN, *]
    have HV : Hid (((midI a b c) : Int) = V) := by show _ = V; rw [← hV]; simp [voteV, voteK, okV, anyN, *]
    clear hK hV
    go_enter Try.func11, Try.ntmps11
    go_wp2_with (first | (go_at_call 20; refine (l1SizeV_any _ (by assumption) (by assumption) _).mono ?_; rintro e w' ⟨rfl, hw⟩; obtain rfl := hw.symm; clear hw) | (go_at_call 21; refine (l1In_any _ _ _ _).mono ?_; rintro e w' ⟨rfl, hw⟩; obtain rfl := hw.symm; clear hw) | (go_at_call 22; refine (l1AbsV_any _ (by omega) (by omega) _).mono ?_; rintro e w' ⟨rfl, hw⟩; obtain rfl := hw.symm; clear hw) | (go_at_call 23; refine (l11Middle_any _ _ _ _).mono ?_; rintro e w' ⟨rfl, hw⟩; obtain rfl := hw.symm; clear hw) | (refine store_blk [.int .i64 0, .int .i64 (midI a b c)] 40 _ _ (by kernel_rfl) (by kernel_rfl) (by kernel_rfl) F.out rfl rfl rfl rfl ?_))
    exact bodyPost_ret (v := .agg #[.int .i64 0, .int .i64 (midI a b c)]) ((F.out.row [.int .i64 0, .int .i64 (midI a b c)]).res _ Try.results11 Try.underlying40 (by kernel_rfl) rfl) rfl ⟨ret_two HK.out HV.out, below_row FB.out (Nat.le_refl _) _⟩
  have HK : Hid ((1 : Int) = K) := by show _ = K; rw [← hK]; simp [voteK, okV, anyN, *]
  have HV : Hid ((0 : Int) = V) := by show _ = V; rw [← hV]; simp [voteV, voteK, okV, anyN, *]
  clear hK hV
  go_enter Try.func11, Try.ntmps11
  go_wp2_with (first | (go_at_call 20; refine (l1SizeV_any _ (by assumption) (by assumption) _).mono ?_; rintro e w' ⟨rfl, hw⟩; obtain rfl := hw.symm; clear hw) | (go_at_call 21; refine (l1In_any _ _ _ _).mono ?_; rintro e w' ⟨rfl, hw⟩; obtain rfl := hw.symm; clear hw) | (go_at_call 22; refine (l1AbsV_any _ (by omega) (by omega) _).mono ?_; rintro e w' ⟨rfl, hw⟩; obtain rfl := hw.symm; clear hw) | (go_at_call 23; refine (l11Middle_any _ _ _ _).mono ?_; rintro e w' ⟨rfl, hw⟩; obtain rfl := hw.symm; clear hw) | (refine store_blk [.int .i64 1, .int .i64 0] 40 _ _ (by kernel_rfl) (by kernel_rfl) (by kernel_rfl) F.out rfl rfl rfl rfl ?_))
  exact bodyPost_ret (v := .agg #[.int .i64 1, .int .i64 0]) ((F.out.row [.int .i64 1, .int .i64 0]).res _ Try.results11 Try.underlying40 (by kernel_rfl) rfl) rfl ⟨ret_two HK.out HV.out, below_row FB.out (Nat.le_refl _) _⟩
end Go.Proofs.Ytemiefpkphfpgaa
