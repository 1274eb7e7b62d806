/-
  Sensors: a reading out of 32 bits (the model).
-/
import Derived.Test.YtkpcolfbnkopkabSenE
namespace Go.Proofs.Ytkpcolfbnkopkab
open Go.RowKit Pl
set_option linter.unusedSimpArgs false
set_option linter.unusedVariables false
def unP (x : Int) : Int := if 524287 < x / 4096 then wrap64 (x / 4096 - 1048576) else x / 4096
def unQ (x : Int) : Int := if 511 < bits BinOp.and IntKind.i64 (x / 4) 1023 then wrap64 (bits BinOp.and IntKind.i64 (x / 4) 1023 - 1024) else bits BinOp.and IntKind.i64 (x / 4) 1023
def unK (x : Int) : Int := if inB x 0 4294967295 = true then (if packV (unP x) (unQ x) = x then 0 else 1) else 3
def unA (x : Int) : Int := if unK x = 0 then unP x else 0
def unB (x : Int) : Int := if unK x = 0 then unQ x else 0
set_option maxRecDepth 20000 in
set_option maxHeartbeats 8000000 in
theorem specUnpack_any (x : Int) (w : World) :
    Calls Try.prog 21 #[.int .i64 x] w fun e w' => e = .returned (.agg #[.int .i64 (unK x), .int .i64 (unA x), .int .i64 (unB x)]) ∧ Below w.heap.size w w' := by
  obtain ⟨K, hK⟩ : ∃ K, unK x = K := ⟨_, rfl⟩
  obtain ⟨P', hP'⟩ : ∃ P', unA x = P' := ⟨_, rfl⟩
  obtain ⟨Q', hQ'⟩ : ∃ Q', unB x = Q' := ⟨_, rfl⟩
  obtain ⟨P, hP⟩ : ∃ P, unP x = P := ⟨_, rfl⟩
  obtain ⟨Q, hQ⟩ : ∃ Q, unQ x = Q := ⟨_, rfl⟩
  unfold unA at hP'
  unfold unB at hQ'
  rw [hK, show unA x = P' from hP', show unB x = Q' from hQ']
  rw [hK, hP] at hP'
  rw [hK, hQ] at hQ'
  unfold unK at hK
  rw [hP, hQ] at hK
  unfold unP at hP
  unfold unQ at hQ
  have W0 : Hid (Blk (w.alloc (.cells #[.int .i64 0, .int .i64 0, .int .i64 0] 41)) w.heap.size [.int .i64 0, .int .i64 0, .int .i64 0]) := Blk.at_ w _ _ _ rfl
  have F0 : Hid (Blk ((w.alloc (.cells #[.int .i64 0, .int .i64 0, .int .i64 0] 41)).alloc (.cells #[.int .i64 P, .int .i64 Q] 37)) w.heap.size [.int .i64 0, .int .i64 0, .int .i64 0]) := W0.out.alloc _
  have F1 : Hid (Blk ((w.alloc (.cells #[.int .i64 0, .int .i64 0, .int .i64 0] 41)).alloc (.cells #[.int .i64 P, .int .i64 Q] 37)) (w.heap.size + 1) [.int .i64 P, .int .i64 Q]) := Blk.at_ _ _ _ _ (by simp)
  have WB : Hid (Below w.heap.size w (w.alloc (.cells #[.int .i64 0, .int .i64 0, .int .i64 0] 41))) := (Below.refl _ _).alloc (Nat.le_refl _) _
  have FB : Hid (Below w.heap.size w ((w.alloc (.cells #[.int .i64 0, .int .i64 0, .int .i64 0] 41)).alloc (.cells #[.int .i64 P, .int .i64 Q] 37))) := WB.out.alloc (by simp) _
  cases h1 : inB x 0 4294967295
  · have hk : (3 : Int) = K := by rw [h1] at hK; simpa using hK
    have HK : Hid ((3 : Int) = K) := hk
    have HP : Hid ((0 : Int) = P') := by show (0 : Int) = P'; rw [← hk] at hP'; simpa using hP'
    have HQ : Hid ((0 : Int) = Q') := by show (0 : Int) = Q'; rw [← hk] at hQ'; simpa using hQ'
    clear hk hK hP hQ hP' hQ' F0 F1 FB
    go_enter Try.func21, Try.ntmps21
    go_wp2_with (first | (go_at_call 26; refine (l1In_any _ _ _ _).mono ?_; rintro e w' ⟨rfl, hw⟩; obtain rfl := hw.symm; clear hw) | (refine store_blk [.int .i64 3, .int .i64 0, .int .i64 0] 41 _ _ (by kernel_rfl) (by kernel_rfl) (by kernel_rfl) W0.out rfl rfl rfl rfl ?_))
    exact bodyPost_ret (v := .agg #[.int .i64 3, .int .i64 0, .int .i64 0]) ((W0.out.row [.int .i64 3, .int .i64 0, .int .i64 0]).res _ Try.results21 Try.underlying41 (by kernel_rfl) rfl) rfl ⟨by rw [← HK.out, ← HP.out, ← HQ.out], below_row WB.out (Nat.le_refl _) _⟩
  rw [h1, if_pos rfl] at hK
  clear W0 WB
  obtain ⟨V, hV⟩ : ∃ V, packV P Q = V := ⟨_, rfl⟩
  rw [hV] at hK
  have HVV : Hid (packV P Q = V) := hV
  clear hV
  have way10 : ¬ 524287 < (x / 4096) → ¬ 511 < (bits BinOp.and IntKind.i64 (x / 4) 1023) → V = x → Calls Try.prog 21 #[.int .i64 x] w fun e w' => e = .returned (.agg #[.int .i64 K, .int .i64 P', .int .i64 Q']) ∧ Below w.heap.size w w' := by
    intro d1 d2 c
    have HP : Hid ((x / 4096) = P) := by show (x / 4096) = P; rw [← hP]; rw [if_neg d1]
    have HQ : Hid ((bits BinOp.and IntKind.i64 (x / 4) 1023) = Q) := by show (bits BinOp.and IntKind.i64 (x / 4) 1023) = Q; rw [← hQ]; rw [if_neg d2]
    have hk : (0 : Int) = K := by rw [if_pos c] at hK; exact hK
    have HK : Hid ((0 : Int) = K) := hk
    have HA : Hid (P = P') := by show P = P'; rw [← hk] at hP'; simpa using hP'
    have HB : Hid (Q = Q') := by show Q = Q'; rw [← hk] at hQ'; simpa using hQ'
    clear hk hK hP hQ hP' hQ'
    have fp : ∀ (b : Int) (W : World), (Instr.field 23 (.agg #[.int .i64 (packK P Q), .int .i64 b]) 1).run Try.prog W = .ok (.int .i64 b) W := fun b W => by kernel_rfl
    go_enter Try.func21, Try.ntmps21
    go_wp2_with (first | (go_at_call 26; refine (l1In_any _ _ _ _).mono ?_; rintro e w' ⟨rfl, hw⟩; obtain rfl := hw.symm; clear hw) | (go_at_call 18; rw [HP.out]; rw [HQ.out]; refine (specPack_any P Q _).mono ?_; rw [HVV.out]; rintro e w1 ⟨rfl, hb⟩; have F0 : Hid (Blk w1 w.heap.size [.int .i64 0, .int .i64 0, .int .i64 0]) := F0.out.below hb F0.out.lt; have F1 : Hid (Blk w1 (w.heap.size + 1) [.int .i64 P, .int .i64 Q]) := F1.out.below hb F1.out.lt; have FB : Hid (Below w.heap.size w w1) := FB.out.trans (hb.mono FB.out.size); clear hb) | (refine load_blk 37 _ Try.underlying37 (by kernel_rfl) F1.out rfl rfl rfl ?_) | (refine store_blk [.int .i64 0, .int .i64 P, .int .i64 Q] 41 _ _ (by kernel_rfl) (by kernel_rfl) (by kernel_rfl) F0.out rfl rfl rfl rfl ?_))
    exact bodyPost_ret (v := .agg #[.int .i64 0, .int .i64 P, .int .i64 Q]) ((F0.out.row [.int .i64 0, .int .i64 P, .int .i64 Q]).res _ Try.results21 Try.underlying41 (by kernel_rfl) rfl) rfl ⟨by rw [← HK.out, ← HA.out, ← HB.out], below_row FB.out (Nat.le_refl _) _⟩
  have way11 : ¬ 524287 < (x / 4096) → ¬ 511 < (bits BinOp.and IntKind.i64 (x / 4) 1023) → ¬ V = x → Calls Try.prog 21 #[.int .i64 x] w fun e w' => e = .returned (.agg #[.int .i64 K, .int .i64 P', .int .i64 Q']) ∧ Below w.heap.size w w' := by
    intro d1 d2 c
    have HP : Hid ((x / 4096) = P) := by show (x / 4096) = P; rw [← hP]; rw [if_neg d1]
    have HQ : Hid ((bits BinOp.and IntKind.i64 (x / 4) 1023) = Q) := by show (bits BinOp.and IntKind.i64 (x / 4) 1023) = Q; rw [← hQ]; rw [if_neg d2]
    have hk : (1 : Int) = K := by rw [if_neg c] at hK; exact hK
    have HK : Hid ((1 : Int) = K) := hk
    have HA : Hid (0 = P') := by show 0 = P'; rw [← hk] at hP'; simpa using hP'
    have HB : Hid (0 = Q') := by show 0 = Q'; rw [← hk] at hQ'; simpa using hQ'
    clear hk hK hP hQ hP' hQ'
    have fp : ∀ (b : Int) (W : World), (Instr.field 23 (.agg #[.int .i64 (packK P Q), .int .i64 b]) 1).run Try.prog W = .ok (.int .i64 b) W := fun b W => by kernel_rfl
    go_enter Try.func21, Try.ntmps21
    go_wp2_with (first | (go_at_call 26; refine (l1In_any _ _ _ _).mono ?_; rintro e w' ⟨rfl, hw⟩; obtain rfl := hw.symm; clear hw) | (go_at_call 18; rw [HP.out]; rw [HQ.out]; refine (specPack_any P Q _).mono ?_; rw [HVV.out]; rintro e w1 ⟨rfl, hb⟩; have F0 : Hid (Blk w1 w.heap.size [.int .i64 0, .int .i64 0, .int .i64 0]) := F0.out.below hb F0.out.lt; have F1 : Hid (Blk w1 (w.heap.size + 1) [.int .i64 P, .int .i64 Q]) := F1.out.below hb F1.out.lt; have FB : Hid (Below w.heap.size w w1) := FB.out.trans (hb.mono FB.out.size); clear hb) | (refine load_blk 37 _ Try.underlying37 (by kernel_rfl) F1.out rfl rfl rfl ?_) | (refine store_blk [.int .i64 1, .int .i64 0, .int .i64 0] 41 _ _ (by kernel_rfl) (by kernel_rfl) (by kernel_rfl) F0.out rfl rfl rfl rfl ?_))
    exact bodyPost_ret (v := .agg #[.int .i64 1, .int .i64 0, .int .i64 0]) ((F0.out.row [.int .i64 1, .int .i64 0, .int .i64 0]).res _ Try.results21 Try.underlying41 (by kernel_rfl) rfl) rfl ⟨by rw [← HK.out, ← HA.out, ← HB.out], below_row FB.out (Nat.le_refl _) _⟩
  have way20 : ¬ 524287 < (x / 4096) → 511 < (bits BinOp.and IntKind.i64 (x / 4) 1023) → V = x → Calls Try.prog 21 #[.int .i64 x] w fun e w' => e = .returned (.agg #[.int .i64 K, .int .i64 P', .int .i64 Q']) ∧ Below w.heap.size w w' := by
    intro d1 d2 c
    have HP : Hid ((x / 4096) = P) := by show (x / 4096) = P; rw [← hP]; rw [if_neg d1]
    have HQ : Hid (wrap64 ((bits BinOp.and IntKind.i64 (x / 4) 1023) - 1024) = Q) := by show wrap64 ((bits BinOp.and IntKind.i64 (x / 4) 1023) - 1024) = Q; rw [← hQ]; rw [if_pos d2]
    have hk : (0 : Int) = K := by rw [if_pos c] at hK; exact hK
    have HK : Hid ((0 : Int) = K) := hk
    have HA : Hid (P = P') := by show P = P'; rw [← hk] at hP'; simpa using hP'
    have HB : Hid (Q = Q') := by show Q = Q'; rw [← hk] at hQ'; simpa using hQ'
    clear hk hK hP hQ hP' hQ'
    have fp : ∀ (b : Int) (W : World), (Instr.field 23 (.agg #[.int .i64 (packK P Q), .int .i64 b]) 1).run Try.prog W = .ok (.int .i64 b) W := fun b W => by kernel_rfl
    go_enter Try.func21, Try.ntmps21
    go_wp2_with (first | (go_at_call 26; refine (l1In_any _ _ _ _).mono ?_; rintro e w' ⟨rfl, hw⟩; obtain rfl := hw.symm; clear hw) | (go_at_call 18; rw [HP.out]; rw [HQ.out]; refine (specPack_any P Q _).mono ?_; rw [HVV.out]; rintro e w1 ⟨rfl, hb⟩; have F0 : Hid (Blk w1 w.heap.size [.int .i64 0, .int .i64 0, .int .i64 0]) := F0.out.below hb F0.out.lt; have F1 : Hid (Blk w1 (w.heap.size + 1) [.int .i64 P, .int .i64 Q]) := F1.out.below hb F1.out.lt; have FB : Hid (Below w.heap.size w w1) := FB.out.trans (hb.mono FB.out.size); clear hb) | (refine load_blk 37 _ Try.underlying37 (by kernel_rfl) F1.out rfl rfl rfl ?_) | (refine store_blk [.int .i64 0, .int .i64 P, .int .i64 Q] 41 _ _ (by kernel_rfl) (by kernel_rfl) (by kernel_rfl) F0.out rfl rfl rfl rfl ?_))
    exact bodyPost_ret (v := .agg #[.int .i64 0, .int .i64 P, .int .i64 Q]) ((F0.out.row [.int .i64 0, .int .i64 P, .int .i64 Q]).res _ Try.results21 Try.underlying41 (by kernel_rfl) rfl) rfl ⟨by rw [← HK.out, ← HA.out, ← HB.out], below_row FB.out (Nat.le_refl _) _⟩
  have way21 : ¬ 524287 < (x / 4096) → 511 < (bits BinOp.and IntKind.i64 (x / 4) 1023) → ¬ V = x → Calls Try.prog 21 #[.int .i64 x] w fun e w' => e = .returned (.agg #[.int .i64 K, .int .i64 P', .int .i64 Q']) ∧ Below w.heap.size w w' := by
    intro d1 d2 c
    have HP : Hid ((x / 4096) = P) := by show (x / 4096) = P; rw [← hP]; rw [if_neg d1]
    have HQ : Hid (wrap64 ((bits BinOp.and IntKind.i64 (x / 4) 1023) - 1024) = Q) := by show wrap64 ((bits BinOp.and IntKind.i64 (x / 4) 1023) - 1024) = Q; rw [← hQ]; rw [if_pos d2]
    have hk : (1 : Int) = K := by rw [if_neg c] at hK; exact hK
    have HK : Hid ((1 : Int) = K) := hk
    have HA : Hid (0 = P') := by show 0 = P'; rw [← hk] at hP'; simpa using hP'
    have HB : Hid (0 = Q') := by show 0 = Q'; rw [← hk] at hQ'; simpa using hQ'
    clear hk hK hP hQ hP' hQ'
    have fp : ∀ (b : Int) (W : World), (Instr.field 23 (.agg #[.int .i64 (packK P Q), .int .i64 b]) 1).run Try.prog W = .ok (.int .i64 b) W := fun b W => by kernel_rfl
    go_enter Try.func21, Try.ntmps21
    go_wp2_with (first | (go_at_call 26; refine (l1In_any _ _ _ _).mono ?_; rintro e w' ⟨rfl, hw⟩; obtain rfl := hw.symm; clear hw) | (go_at_call 18; rw [HP.out]; rw [HQ.out]; refine (specPack_any P Q _).mono ?_; rw [HVV.out]; rintro e w1 ⟨rfl, hb⟩; have F0 : Hid (Blk w1 w.heap.size [.int .i64 0, .int .i64 0, .int .i64 0]) := F0.out.below hb F0.out.lt; have F1 : Hid (Blk w1 (w.heap.size + 1) [.int .i64 P, .int .i64 Q]) := F1.out.below hb F1.out.lt; have FB : Hid (Below w.heap.size w w1) := FB.out.trans (hb.mono FB.out.size); clear hb) | (refine load_blk 37 _ Try.underlying37 (by kernel_rfl) F1.out rfl rfl rfl ?_) | (refine store_blk [.int .i64 1, .int .i64 0, .int .i64 0] 41 _ _ (by kernel_rfl) (by kernel_rfl) (by kernel_rfl) F0.out rfl rfl rfl rfl ?_))
    exact bodyPost_ret (v := .agg #[.int .i64 1, .int .i64 0, .int .i64 0]) ((F0.out.row [.int .i64 1, .int .i64 0, .int .i64 0]).res _ Try.results21 Try.underlying41 (by kernel_rfl) rfl) rfl ⟨by rw [← HK.out, ← HA.out, ← HB.out], below_row FB.out (Nat.le_refl _) _⟩
  have way30 : 524287 < (x / 4096) → ¬ 511 < (bits BinOp.and IntKind.i64 (x / 4) 1023) → V = x → Calls Try.prog 21 #[.int .i64 x] w fun e w' => e = .returned (.agg #[.int .i64 K, .int .i64 P', .int .i64 Q']) ∧ Below w.heap.size w w' := by
    intro d1 d2 c
    have HP : Hid (wrap64 ((x / 4096) - 1048576) = P) := by show wrap64 ((x / 4096) - 1048576) = P; rw [← hP]; rw [if_pos d1]
    have HQ : Hid ((bits BinOp.and IntKind.i64 (x / 4) 1023) = Q) := by show (bits BinOp.and IntKind.i64 (x / 4) 1023) = Q; rw [← hQ]; rw [if_neg d2]
    have hk : (0 : Int) = K := by rw [if_pos c] at hK; exact hK
    have HK : Hid ((0 : Int) = K) := hk
    have HA : Hid (P = P') := by show P = P'; rw [← hk] at hP'; simpa using hP'
    have HB : Hid (Q = Q') := by show Q = Q'; rw [← hk] at hQ'; simpa using hQ'
    clear hk hK hP hQ hP' hQ'
    have fp : ∀ (b : Int) (W : World), (Instr.field 23 (.agg #[.int .i64 (packK P Q), .int .i64 b]) 1).run Try.prog W = .ok (.int .i64 b) W := fun b W => by kernel_rfl
    go_enter Try.func21, Try.ntmps21
    go_wp2_with (first | (go_at_call 26; refine (l1In_any _ _ _ _).mono ?_; rintro e w' ⟨rfl, hw⟩; obtain rfl := hw.symm; clear hw) | (go_at_call 18; rw [HP.out]; rw [HQ.out]; refine (specPack_any P Q _).mono ?_; rw [HVV.out]; rintro e w1 ⟨rfl, hb⟩; have F0 : Hid (Blk w1 w.heap.size [.int .i64 0, .int .i64 0, .int .i64 0]) := F0.out.below hb F0.out.lt; have F1 : Hid (Blk w1 (w.heap.size + 1) [.int .i64 P, .int .i64 Q]) := F1.out.below hb F1.out.lt; have FB : Hid (Below w.heap.size w w1) := FB.out.trans (hb.mono FB.out.size); clear hb) | (refine load_blk 37 _ Try.underlying37 (by kernel_rfl) F1.out rfl rfl rfl ?_) | (refine store_blk [.int .i64 0, .int .i64 P, .int .i64 Q] 41 _ _ (by kernel_rfl) (by kernel_rfl) (by kernel_rfl) F0.out rfl rfl rfl rfl ?_))
    exact bodyPost_ret (v := .agg #[.int .i64 0, .int .i64 P, .int .i64 Q]) ((F0.out.row [.int .i64 0, .int .i64 P, .int .i64 Q]).res _ Try.results21 Try.underlying41 (by kernel_rfl) rfl) rfl ⟨by rw [← HK.out, ← HA.out, ← HB.out], below_row FB.out (Nat.le_refl _) _⟩
  have way31 : 524287 < (x / 4096) → ¬ 511 < (bits BinOp.and IntKind.i64 (x / 4) 1023) → ¬ V = x → Calls Try.prog 21 #[.int .i64 x] w fun e w' => e = .returned (.agg #[.int .i64 K, .int .i64 P', .int .i64 Q']) ∧ Below w.heap.size w w' := by
    intro d1 d2 c
    have HP : Hid (wrap64 ((x / 4096) - 1048576) = P) := by show wrap64 ((x / 4096) - 1048576) = P; rw [← hP]; rw [if_pos d1]
    have HQ : Hid ((bits BinOp.and IntKind.i64 (x / 4) 1023) = Q) := by show (bits BinOp.and IntKind.i64 (x / 4) 1023) = Q; rw [← hQ]; rw [if_neg d2]
    have hk : (1 : Int) = K := by rw [if_neg c] at hK; exact hK
    have HK : Hid ((1 : Int) = K) := hk
    have HA : Hid (0 = P') := by show 0 = P'; rw [← hk] at hP'; simpa using hP'
    have HB : Hid (0 = Q') := by show 0 = Q'; rw [← hk] at hQ'; simpa using hQ'
    clear hk hK hP hQ hP' hQ'
    have fp : ∀ (b : Int) (W : World), (Instr.field 23 (.agg #[.int .i64 (packK P Q), .int .i64 b]) 1).run Try.prog W = .ok (.int .i64 b) W := fun b W => by kernel_rfl
    go_enter Try.func21, Try.ntmps21
    go_wp2_with (first | (go_at_call 26; refine (l1In_any _ _ _ _).mono ?_; rintro e w' ⟨rfl, hw⟩; obtain rfl := hw.symm; clear hw) | (go_at_call 18; rw [HP.out]; rw [HQ.out]; refine (specPack_any P Q _).mono ?_; rw [HVV.out]; rintro e w1 ⟨rfl, hb⟩; have F0 : Hid (Blk w1 w.heap.size [.int .i64 0, .int .i64 0, .int .i64 0]) := F0.out.below hb F0.out.lt; have F1 : Hid (Blk w1 (w.heap.size + 1) [.int .i64 P, .int .i64 Q]) := F1.out.below hb F1.out.lt; have FB : Hid (Below w.heap.size w w1) := FB.out.trans (hb.mono FB.out.size); clear hb) | (refine load_blk 37 _ Try.underlying37 (by kernel_rfl) F1.out rfl rfl rfl ?_) | (refine store_blk [.int .i64 1, .int .i64 0, .int .i64 0] 41 _ _ (by kernel_rfl) (by kernel_rfl) (by kernel_rfl) F0.out rfl rfl rfl rfl ?_))
    exact bodyPost_ret (v := .agg #[.int .i64 1, .int .i64 0, .int .i64 0]) ((F0.out.row [.int .i64 1, .int .i64 0, .int .i64 0]).res _ Try.results21 Try.underlying41 (by kernel_rfl) rfl) rfl ⟨by rw [← HK.out, ← HA.out, ← HB.out], below_row FB.out (Nat.le_refl _) _⟩
  have way40 : 524287 < (x / 4096) → 511 < (bits BinOp.and IntKind.i64 (x / 4) 1023) → V = x → Calls Try.prog 21 #[.int .i64 x] w fun e w' => e = .returned (.agg #[.int .i64 K, .int .i64 P', .int .i64 Q']) ∧ Below w.heap.size w w' := by
    intro d1 d2 c
    have HP : Hid (wrap64 ((x / 4096) - 1048576) = P) := by show wrap64 ((x / 4096) - 1048576) = P; rw [← hP]; rw [if_pos d1]
    have HQ : Hid (wrap64 ((bits BinOp.and IntKind.i64 (x / 4) 1023) - 1024) = Q) := by show wrap64 ((bits BinOp.and IntKind.i64 (x / 4) 1023) - 1024) = Q; rw [← hQ]; rw [if_pos d2]
    have hk : (0 : Int) = K := by rw [if_pos c] at hK; exact hK
    have HK : Hid ((0 : Int) = K) := hk
    have HA : Hid (P = P') := by show P = P'; rw [← hk] at hP'; simpa using hP'
    have HB : Hid (Q = Q') := by show Q = Q'; rw [← hk] at hQ'; simpa using hQ'
    clear hk hK hP hQ hP' hQ'
    have fp : ∀ (b : Int) (W : World), (Instr.field 23 (.agg #[.int .i64 (packK P Q), .int .i64 b]) 1).run Try.prog W = .ok (.int .i64 b) W := fun b W => by kernel_rfl
    go_enter Try.func21, Try.ntmps21
    go_wp2_with (first | (go_at_call 26; refine (l1In_any _ _ _ _).mono ?_; rintro e w' ⟨rfl, hw⟩; obtain rfl := hw.symm; clear hw) | (go_at_call 18; rw [HP.out]; rw [HQ.out]; refine (specPack_any P Q _).mono ?_; rw [HVV.out]; rintro e w1 ⟨rfl, hb⟩; have F0 : Hid (Blk w1 w.heap.size [.int .i64 0, .int .i64 0, .int .i64 0]) := F0.out.below hb F0.out.lt; have F1 : Hid (Blk w1 (w.heap.size + 1) [.int .i64 P, .int .i64 Q]) := F1.out.below hb F1.out.lt; have FB : Hid (Below w.heap.size w w1) := FB.out.trans (hb.mono FB.out.size); clear hb) | (refine load_blk 37 _ Try.underlying37 (by kernel_rfl) F1.out rfl rfl rfl ?_) | (refine store_blk [.int .i64 0, .int .i64 P, .int .i64 Q] 41 _ _ (by kernel_rfl) (by kernel_rfl) (by kernel_rfl) F0.out rfl rfl rfl rfl ?_))
    exact bodyPost_ret (v := .agg #[.int .i64 0, .int .i64 P, .int .i64 Q]) ((F0.out.row [.int .i64 0, .int .i64 P, .int .i64 Q]).res _ Try.results21 Try.underlying41 (by kernel_rfl) rfl) rfl ⟨by rw [← HK.out, ← HA.out, ← HB.out], below_row FB.out (Nat.le_refl _) _⟩
  have way41 : 524287 < (x / 4096) → 511 < (bits BinOp.and IntKind.i64 (x / 4) 1023) → ¬ V = x → Calls Try.prog 21 #[.int .i64 x] w fun e w' => e = .returned (.agg #[.int .i64 K, .int .i64 P', .int .i64 Q']) ∧ Below w.heap.size w w' := by
    intro d1 d2 c
    have HP : Hid (wrap64 ((x / 4096) - 1048576) = P) := by show wrap64 ((x / 4096) - 1048576) = P; rw [← hP]; rw [if_pos d1]
    have HQ : Hid (wrap64 ((bits BinOp.and IntKind.i64 (x / 4) 1023) - 1024) = Q) := by show wrap64 ((bits BinOp.and IntKind.i64 (x / 4) 1023) - 1024) = Q; rw [← hQ]; rw [if_pos d2]
    have hk : (1 : Int) = K := by rw [if_neg c] at hK; exact hK
    have HK : Hid ((1 : Int) = K) := hk
    have HA : Hid (0 = P') := by show 0 = P'; rw [← hk] at hP'; simpa using hP'
    have HB : Hid (0 = Q') := by show 0 = Q'; rw [← hk] at hQ'; simpa using hQ'
    clear hk hK hP hQ hP' hQ'
    have fp : ∀ (b : Int) (W : World), (Instr.field 23 (.agg #[.int .i64 (packK P Q), .int .i64 b]) 1).run Try.prog W = .ok (.int .i64 b) W := fun b W => by kernel_rfl
    go_enter Try.func21, Try.ntmps21
    go_wp2_with (first | (go_at_call 26; refine (l1In_any _ _ _ _).mono ?_; rintro e w' ⟨rfl, hw⟩; obtain rfl := hw.symm; clear hw) | (go_at_call 18; rw [HP.out]; rw [HQ.out]; refine (specPack_any P Q _).mono ?_; rw [HVV.out]; rintro e w1 ⟨rfl, hb⟩; have F0 : Hid (Blk w1 w.heap.size [.int .i64 0, .int .i64 0, .int .i64 0]) := F0.out.below hb F0.out.lt; have F1 : Hid (Blk w1 (w.heap.size + 1) [.int .i64 P, .int .i64 Q]) := F1.out.below hb F1.out.lt; have FB : Hid (Below w.heap.size w w1) := FB.out.trans (hb.mono FB.out.size); clear hb) | (refine load_blk 37 _ Try.underlying37 (by kernel_rfl) F1.out rfl rfl rfl ?_) | (refine store_blk [.int .i64 1, .int .i64 0, .int .i64 0] 41 _ _ (by kernel_rfl) (by kernel_rfl) (by kernel_rfl) F0.out rfl rfl rfl rfl ?_))
    exact bodyPost_ret (v := .agg #[.int .i64 1, .int .i64 0, .int .i64 0]) ((F0.out.row [.int .i64 1, .int .i64 0, .int .i64 0]).res _ Try.results21 Try.underlying41 (by kernel_rfl) rfl) rfl ⟨by rw [← HK.out, ← HA.out, ← HB.out], below_row FB.out (Nat.le_refl _) _⟩
  by_cases d1 : 524287 < (x / 4096)
  · by_cases d2 : 511 < (bits BinOp.and IntKind.i64 (x / 4) 1023)
    · by_cases c : V = x
      · exact way40 d1 d2 c
      · exact way41 d1 d2 c
    · by_cases c : V = x
      · exact way30 d1 d2 c
      · exact way31 d1 d2 c
  · by_cases d2 : 511 < (bits BinOp.and IntKind.i64 (x / 4) 1023)
    · by_cases c : V = x
      · exact way20 d1 d2 c
      · exact way21 d1 d2 c
    · by_cases c : V = x
      · exact way10 d1 d2 c
      · exact way11 d1 d2 c
end Go.Proofs.Ytkpcolfbnkopkab
