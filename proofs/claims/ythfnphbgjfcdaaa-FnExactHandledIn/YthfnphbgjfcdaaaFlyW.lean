/-
  Whom a lift can carry: the model and the program.
-/
import Derived.Test.YthfnphbgjfcdaaaFlyT
import Derived.Test.YthfnphbgjfcdaaaFlyV
import Derived.Test.YthfnphbgjfcdaaaFnd
import Derived.Deep.DeepCutAuto
namespace Go.Proofs.Ythfnphbgjfcdaaa
open Go.RowKit Pl
set_option linter.unusedSimpArgs false
set_option linter.unusedVariables false

/-- The round trip's stops: to the top and back. -/
def Hs.rtL (h : Hs) : List Int := [0, h.fl - 1, 0]
theorem rt_fls {h : Hs} (o : h.Ok) : flsA h (Hs.rtL h) = true := by
  have := o.fl1
  unfold flsA Hs.rtL
  simp only [List.all_cons, List.all_nil, Bool.and_true, Bool.and_eq_true]
  exact ⟨inB_yes (by omega) (by omega), inB_yes (by omega) (by omega), inB_yes (by omega) (by omega)⟩
theorem rt_bd {h : Hs} (o : h.Ok) : 6 ≤ Hs.trpT h (Hs.rtL h) ∧ Hs.trpT h (Hs.rtL h) ≤ 100000 := by
  have a := (trp_bd o (l := Hs.rtL h) (by simp [Hs.rtL])).2
  have b := legS_bd h (Hs.rtL h) ((Hs.rtL h).length - 1)
  have c := o.do1
  refine ⟨?_, a⟩
  unfold Hs.trpT
  have e : ((Hs.rtL h).length : Int) = 3 := rfl
  rw [e]; omega
def Hs.hdK (h : Hs) (M t : Int) : Int := if h.fault = 0 then (if inB t 0 M = true then Hs.trpK h (Hs.rtL h) else 3) else h.fault
def Hs.hdV (h : Hs) (M : Int) (F : Int → Int) (t : Int) : Int := if h.fault = 0 then (if inB t 0 M = true then (if Hs.trpB h (Hs.rtL h) = true then F (Hs.trpT h (Hs.rtL h)) else 0) else 0) else 0
theorem rt_iin {W : World} {g : Nat} {h : Hs} (hg : g < W.heap.size) (c0 : W.cell? ⟨g, 0, none⟩ = some (.int .i64 0)) (c1 : W.cell? ⟨g, 1, none⟩ = some (.int .i64 (h.fl - 1))) (c2 : W.cell? ⟨g, 2, none⟩ = some (.int .i64 0)) : IIn W (some ⟨g, 0, none⟩) (Hs.rtL h) :=
  Or.inr ⟨g, rfl, hg, fun i x hx => by
    unfold Hs.rtL at hx
    match i, hx with
    | 0, hx => simp at hx; subst hx; exact c0
    | 1, hx => simp at hx; subst hx; exact c1
    | 2, hx => simp at hx; subst hx; exact c2
    | i + 3, hx => simp at hx⟩
theorem quo_le {t T : Int} (t1 : 0 ≤ t) (T1 : 1 ≤ T) : 0 ≤ t / T ∧ t / T ≤ t := ⟨Int.ediv_nonneg t1 (by omega), Int.ediv_le_self _ t1⟩
theorem ld_mul {l q M : Int} (l1 : 1 ≤ l) (l2 : l ≤ 20) (q1 : 0 ≤ q) (q2 : q ≤ M) : 0 ≤ l * q ∧ l * q ≤ 20 * M := by
  have a := Int.mul_nonneg (show (0 : Int) ≤ l by omega) q1
  have b := Int.mul_le_mul l2 q2 q1 (show (0 : Int) ≤ 20 by omega)
  exact ⟨a, b⟩
theorem up_le {p l M : Int} (p1 : 0 ≤ p) (p2 : p ≤ M) (l1 : 1 ≤ l) (l2 : l ≤ 20) : 0 ≤ (p + l - 1) / l ∧ (p + l - 1) / l ≤ M + 20 := by
  have a := quo_le (t := p + l - 1) (T := l) (by omega) l1
  omega
set_option maxRecDepth 20000 in
set_option maxHeartbeats 16000000 in
theorem roundTrip_any (h : Hs) (hf : h.fault = 0) (w : World) :
    Calls Try.prog 36 #[.agg #[.int .i64 h.fl, .int .i64 h.gp, .int .i64 h.ln, .int .i64 h.rf, .int .i64 h.sp, .int .i64 h.pu, .int .i64 h.br, .int .i64 h.dr, .int .i64 h.lv, .int .i64 h.dO, .int .i64 h.ld, .int .i64 h.qu]] w (isAns w (Hs.trpK h (Hs.rtL h)) (Hs.trpV h (Hs.rtL h))) := by
  have o : h.Ok := Hs.ok_of (Hs.fault_zero hf).1
  have f1 := o.fl1
  have f2 := o.fl2
  obtain ⟨K1, hK1⟩ : ∃ K1, Hs.trpK h (Hs.rtL h) = K1 := ⟨_, rfl⟩
  obtain ⟨V1, hV1⟩ : ∃ V1, Hs.trpV h (Hs.rtL h) = V1 := ⟨_, rfl⟩
  have CT : ∀ (W : World) (g : Nat), g < W.heap.size → W.cell? ⟨g, 0, none⟩ = some (.int .i64 0) → W.cell? ⟨g, 1, none⟩ = some (.int .i64 (h.fl - 1)) → W.cell? ⟨g, 2, none⟩ = some (.int .i64 0) → Calls Try.prog 14 #[.agg #[.int .i64 h.fl, .int .i64 h.gp, .int .i64 h.ln, .int .i64 h.rf, .int .i64 h.sp, .int .i64 h.pu, .int .i64 h.br, .int .i64 h.dr, .int .i64 h.lv, .int .i64 h.dO, .int .i64 h.ld, .int .i64 h.qu], .slice (some ⟨g, 0, none⟩) 3 3] W (isAns W K1 V1) := fun W g hg c0 c1 c2 => by
    have z := implTripTicks_any h (Hs.rtL h) (some ⟨g, 0, none⟩) 3 (by simp [Hs.rtL]) W (rt_iin hg c0 c1 c2)
    have e1 : Hs.tpK h (Hs.rtL h) = K1 := by unfold Hs.tpK; rw [if_pos hf, if_pos (by simp [Hs.rtL]), if_pos (rt_fls o)]; exact hK1
    have e2 : Hs.tpV h (Hs.rtL h) = V1 := by unfold Hs.tpV; rw [if_pos hf, if_pos (by simp [Hs.rtL]), if_pos (rt_fls o)]; exact hV1
    rw [e1, e2] at z
    exact z
  rw [hK1, hV1]
  have ew : IntKind.i64.wrap (h.fl - 1) = h.fl - 1 := IntWalk.i64_in _ (by omega)
  clear hK1 hV1 hf o
  obtain ⟨b0, hb0⟩ : ∃ b0, b0 = w.heap.size := ⟨_, rfl⟩
  obtain ⟨b1, hb1⟩ : ∃ b1, b1 = b0 + 1 := ⟨_, rfl⟩
  obtain ⟨W0, hW0⟩ : ∃ W0, W0 = (w.alloc (.cells #[.int .i64 h.fl, .int .i64 h.gp, .int .i64 h.ln, .int .i64 h.rf, .int .i64 h.sp, .int .i64 h.pu, .int .i64 h.br, .int .i64 h.dr, .int .i64 h.lv, .int .i64 h.dO, .int .i64 h.ld, .int .i64 h.qu] 27)).alloc (.cells #[.int .i64 0, .int .i64 0] 25) := ⟨_, rfl⟩
  have F0 : Hid (Blk W0 b0 [.int .i64 h.fl, .int .i64 h.gp, .int .i64 h.ln, .int .i64 h.rf, .int .i64 h.sp, .int .i64 h.pu, .int .i64 h.br, .int .i64 h.dr, .int .i64 h.lv, .int .i64 h.dO, .int .i64 h.ld, .int .i64 h.qu]) := by rw [hW0]; exact ((Blk.at_ _ #[.int .i64 h.fl, .int .i64 h.gp, .int .i64 h.ln, .int .i64 h.rf, .int .i64 h.sp, .int .i64 h.pu, .int .i64 h.br, .int .i64 h.dr, .int .i64 h.lv, .int .i64 h.dO, .int .i64 h.ld, .int .i64 h.qu] _ _ hb0).alloc _)
  have F1 : Hid (Blk W0 b1 [.int .i64 0, .int .i64 0]) := by rw [hW0]; exact (Blk.at_ _ #[.int .i64 0, .int .i64 0] _ _ (by simp; omega))
  have FB : Hid (Below w.heap.size w W0) := by rw [hW0]; exact (((Below.refl _ _).alloc (Nat.le_refl _) _).alloc (by simp) _)
  have leb0 : w.heap.size ≤ b0 := by omega
  have leb1 : w.heap.size ≤ b1 := by omega
  have l01 : b0 < b1 := by omega
  go_enter Try.func36, Try.ntmps36
  go_upto_region 1 with fail
  rw [← hb0, ← hb1, ← hW0]
  clear hb0 hb1 hW0
  have c00 := F0.out.c 0 _ rfl
  go_wp2_with (first | (refine load_blk 27 _ Try.underlying27 (by kernel_rfl) F0.out rfl rfl rfl ?_) | (go_at_call 14; refine (CT _ W0.heap.size (by simp) (by simp) (by simp) (by simp)).mono ?_; rintro e w2 ⟨rfl, hb⟩; have hb : Below W0.heap.size W0 w2 := ((Below.refl _ _).alloc (Nat.le_refl _) _).trans (hb.mono (by simp)); have F0 : Hid (Blk w2 b0 [.int .i64 h.fl, .int .i64 h.gp, .int .i64 h.ln, .int .i64 h.rf, .int .i64 h.sp, .int .i64 h.pu, .int .i64 h.br, .int .i64 h.dr, .int .i64 h.lv, .int .i64 h.dO, .int .i64 h.ld, .int .i64 h.qu]) := F0.out.below hb F0.out.lt; have F1 : Hid (Blk w2 b1 [.int .i64 0, .int .i64 0]) := F1.out.below hb F1.out.lt; have FB : Hid (Below w.heap.size w w2) := FB.out.trans (hb.mono FB.out.size); clear hb) | (refine store_blk [.int .i64 K1, .int .i64 V1] 25 _ _ (by kernel_rfl) (by kernel_rfl) (by kernel_rfl) F1.out rfl rfl rfl rfl ?_))
  exact bodyPost_ret (v := .agg #[.int .i64 K1, .int .i64 V1]) ((F1.out.row [.int .i64 K1, .int .i64 V1]).res _ Try.results36 Try.underlying25 (by kernel_rfl) rfl) rfl ⟨rfl, below_row FB.out leb1 _⟩
set_option maxRecDepth 20000 in
set_option maxHeartbeats 16000000 in
theorem specHandledIn_any (h : Hs) (t : Int) (w : World) :
    Calls Try.prog 16 #[.agg #[.int .i64 h.fl, .int .i64 h.gp, .int .i64 h.ln, .int .i64 h.rf, .int .i64 h.sp, .int .i64 h.pu, .int .i64 h.br, .int .i64 h.dr, .int .i64 h.lv, .int .i64 h.dO, .int .i64 h.ld, .int .i64 h.qu], .int .i64 t] w (isAns w (Hs.hdK h 1000000000000000 t) (Hs.hdV h 1000000000000000 (fun T => h.ld * (t / T)) t)) := by
  obtain ⟨K, hK⟩ : ∃ K, Hs.hdK h 1000000000000000 t = K := ⟨_, rfl⟩
  obtain ⟨V, hV⟩ : ∃ V, Hs.hdV h 1000000000000000 (fun T => h.ld * (t / T)) t = V := ⟨_, rfl⟩
  rw [hK, hV]
  have HK : Hid (Hs.hdK h 1000000000000000 t = K) := hK
  have HV : Hid (Hs.hdV h 1000000000000000 (fun T => h.ld * (t / T)) t = V) := hV
  obtain ⟨ka, hka⟩ : ∃ ka, h.fault = ka := ⟨_, rfl⟩
  have HA : Hid (h.fault = ka) := hka
  clear hK hV hka
  obtain ⟨b0, hb0⟩ : ∃ b0, b0 = w.heap.size := ⟨_, rfl⟩
  obtain ⟨b1, hb1⟩ : ∃ b1, b1 = b0 + 1 := ⟨_, rfl⟩
  obtain ⟨W0, hW0⟩ : ∃ W0, W0 = (w.alloc (.cells #[.int .i64 h.fl, .int .i64 h.gp, .int .i64 h.ln, .int .i64 h.rf, .int .i64 h.sp, .int .i64 h.pu, .int .i64 h.br, .int .i64 h.dr, .int .i64 h.lv, .int .i64 h.dO, .int .i64 h.ld, .int .i64 h.qu] 27)).alloc (.cells #[.int .i64 0, .int .i64 0] 25) := ⟨_, rfl⟩
  have F0 : Hid (Blk W0 b0 [.int .i64 h.fl, .int .i64 h.gp, .int .i64 h.ln, .int .i64 h.rf, .int .i64 h.sp, .int .i64 h.pu, .int .i64 h.br, .int .i64 h.dr, .int .i64 h.lv, .int .i64 h.dO, .int .i64 h.ld, .int .i64 h.qu]) := by rw [hW0]; exact ((Blk.at_ _ #[.int .i64 h.fl, .int .i64 h.gp, .int .i64 h.ln, .int .i64 h.rf, .int .i64 h.sp, .int .i64 h.pu, .int .i64 h.br, .int .i64 h.dr, .int .i64 h.lv, .int .i64 h.dO, .int .i64 h.ld, .int .i64 h.qu] _ _ hb0).alloc _)
  have F1 : Hid (Blk W0 b1 [.int .i64 0, .int .i64 0]) := by rw [hW0]; exact (Blk.at_ _ #[.int .i64 0, .int .i64 0] _ _ (by simp; omega))
  have FB : Hid (Below w.heap.size w W0) := by rw [hW0]; exact (((Below.refl _ _).alloc (Nat.le_refl _) _).alloc (by simp) _)
  have leb0 : w.heap.size ≤ b0 := by omega
  have leb1 : w.heap.size ≤ b1 := by omega
  have l01 : b0 < b1 := by omega
  go_enter Try.func16, Try.ntmps16
  go_upto_region 1 with fail
  rw [← hb0, ← hb1, ← hW0]
  clear hb0 hb1 hW0
  go_upto_region 2 with (first | (refine load_blk 27 _ Try.underlying27 (by kernel_rfl) F0.out rfl rfl rfl ?_) | (go_at_call 22; refine (specFault_any h _).mono ?_; rw [HA.out]; rintro e w1 ⟨rfl, hb⟩; have F0 : Hid (Blk w1 b0 [.int .i64 h.fl, .int .i64 h.gp, .int .i64 h.ln, .int .i64 h.rf, .int .i64 h.sp, .int .i64 h.pu, .int .i64 h.br, .int .i64 h.dr, .int .i64 h.lv, .int .i64 h.dO, .int .i64 h.ld, .int .i64 h.qu]) := F0.out.below hb F0.out.lt; have F1 : Hid (Blk w1 b1 [.int .i64 0, .int .i64 0]) := F1.out.below hb F1.out.lt; have FB : Hid (Below w.heap.size w w1) := FB.out.trans (hb.mono FB.out.size); clear hb))
  have c00 := F0.out.c 0 _ rfl
  by_cases hz : ka = 0
  case neg =>
    have hn : (ka != 0) = true := by simpa using hz
    have HZ : Hid (ka = K ∧ 0 = V) := ⟨by rw [← HK.out]; unfold Hs.hdK; rw [HA.out, if_neg hz], by rw [← HV.out]; unfold Hs.hdV; rw [HA.out, if_neg hz]⟩
    go_wp2_with (refine store_blk [.int .i64 ka, .int .i64 0] 25 _ _ (by kernel_rfl) (by kernel_rfl) (by kernel_rfl) F1.out rfl rfl rfl rfl ?_)
    exact bodyPost_ret (v := .agg #[.int .i64 ka, .int .i64 0]) ((F1.out.row [.int .i64 ka, .int .i64 0]).res _ Try.results16 Try.underlying25 (by kernel_rfl) rfl) rfl ⟨ret_twoF HZ.out.1 HZ.out.2, below_row FB.out leb1 _⟩
  case pos =>
  subst hz
  have o : h.Ok := Hs.ok_of (Hs.fault_zero HA.out).1
  have f1 := o.fl1
  have f2 := o.fl2
  have ld1 := o.ld1
  have ld2 := o.ld2
  cases hin : inB t 0 1000000000000000 with
  | false =>
    have HZ : Hid (3 = K ∧ 0 = V) := ⟨by rw [← HK.out]; unfold Hs.hdK; rw [HA.out, if_pos rfl, if_neg (by simp [hin])], by rw [← HV.out]; unfold Hs.hdV; rw [HA.out, if_pos rfl, if_neg (by simp [hin])]⟩
    go_wp2_with (first | (go_at_call 23; refine (l1In_any t 0 1000000000000000 _).mono ?_; rw [hin]; rintro e w' ⟨rfl, hw⟩; obtain rfl := hw.symm; clear hw) | (refine store_blk [.int .i64 3, .int .i64 0] 25 _ _ (by kernel_rfl) (by kernel_rfl) (by kernel_rfl) F1.out rfl rfl rfl rfl ?_))
    exact bodyPost_ret (v := .agg #[.int .i64 3, .int .i64 0]) ((F1.out.row [.int .i64 3, .int .i64 0]).res _ Try.results16 Try.underlying25 (by kernel_rfl) rfl) rfl ⟨ret_twoF HZ.out.1 HZ.out.2, below_row FB.out leb1 _⟩
  | true =>
    have bt := inB_iff.1 hin
    have HKA : Hid (Hs.trpK h (Hs.rtL h) = K) := by show _ = K; rw [← HK.out]; unfold Hs.hdK; rw [HA.out, if_pos rfl, if_pos hin]
    have HVA : Hid ((if Hs.trpB h (Hs.rtL h) = true then (fun T => h.ld * (t / T)) (Hs.trpT h (Hs.rtL h)) else 0) = V) := by show _ = V; rw [← HV.out]; unfold Hs.hdV; rw [HA.out, if_pos rfl, if_pos hin]
    obtain ⟨K1, hK1⟩ : ∃ K1, Hs.trpK h (Hs.rtL h) = K1 := ⟨_, rfl⟩
    obtain ⟨V1, hV1⟩ : ∃ V1, Hs.trpV h (Hs.rtL h) = V1 := ⟨_, rfl⟩
    have bT := rt_bd o
    obtain ⟨T, hT⟩ : ∃ T, Hs.trpT h (Hs.rtL h) = T := ⟨_, rfl⟩
    have HT1 : Hid (Hs.trpB h (Hs.rtL h) = true → K1 = 0 ∧ V1 = T ∧ 0 = K ∧ h.ld * (t / T) = V) := fun z => by
      have y := trp_yes z
      rw [hK1, hV1, hT] at y
      refine ⟨y.1, y.2.1, by rw [← HKA.out, hK1, y.1], ?_⟩
      rw [← HVA.out, if_pos z, hT]
    have HT2 : Hid (Hs.trpB h (Hs.rtL h) = false → K1 = 2 ∧ V1 = 0 ∧ 2 = K ∧ 0 = V) := fun z => by
      have y := trp_no z
      rw [hK1, hV1] at y
      refine ⟨y.1, y.2.1, by rw [← HKA.out, hK1, y.1], ?_⟩
      rw [← HVA.out, z]; rfl
    rw [hT] at bT
    have CT : ∀ (W : World) (g : Nat), g < W.heap.size → W.cell? ⟨g, 0, none⟩ = some (.int .i64 0) → W.cell? ⟨g, 1, none⟩ = some (.int .i64 (h.fl - 1)) → W.cell? ⟨g, 2, none⟩ = some (.int .i64 0) → Calls Try.prog 30 #[.agg #[.int .i64 h.fl, .int .i64 h.gp, .int .i64 h.ln, .int .i64 h.rf, .int .i64 h.sp, .int .i64 h.pu, .int .i64 h.br, .int .i64 h.dr, .int .i64 h.lv, .int .i64 h.dO, .int .i64 h.ld, .int .i64 h.qu], .slice (some ⟨g, 0, none⟩) 3 3] W (isAns W K1 V1) := fun W g hg c0 c1 c2 => by
      have z := l14Trip_any h HA.out (Hs.rtL h) (some ⟨g, 0, none⟩) 3 (by simp [Hs.rtL]) (rt_fls o) W (rt_iin hg c0 c1 c2)
      rw [hK1, hV1] at z
      exact z
    have ew : IntKind.i64.wrap (h.fl - 1) = h.fl - 1 := IntWalk.i64_in _ (by omega)
    have bq := quo_le (t := t) (T := T) bt.1 (by omega)
    have et : Int.tdiv t T = t / T := Int.tdiv_eq_ediv_of_nonneg bt.1
    have hT0 : (T == 0) = false := by simp; omega
    have hT1 : ¬ T = 0 := by omega
    obtain ⟨Q, hQ⟩ : ∃ Q, t / T = Q := ⟨_, rfl⟩
    rw [hQ] at bq et HT1
    have bm := ld_mul (l := h.ld) (q := Q) (M := 1000000000000000) (by omega) (by omega) bq.1 (by omega)
    have em : IntKind.i64.wrap (h.ld * Q) = h.ld * Q := IntWalk.i64_in _ (by omega)
    have eq : IntKind.i64.wrap Q = Q := IntWalk.i64_in _ (by omega)
    clear bm
    clear HK HV HKA HVA hK1 hV1 hT o
    go_upto_region 7 with (first | (refine load_blk 27 _ Try.underlying27 (by kernel_rfl) F0.out rfl rfl rfl ?_) | (go_at_call 23; refine (l1In_any t 0 1000000000000000 _).mono ?_; rw [hin]; rintro e w' ⟨rfl, hw⟩; obtain rfl := hw.symm; clear hw) | (go_at_call 30; refine (CT _ w1.heap.size (by simp) (by simp) (by simp) (by simp)).mono ?_; rintro e w4 ⟨rfl, hb⟩; have hb : Below w1.heap.size w1 w4 := ((Below.refl _ _).alloc (Nat.le_refl _) _).trans (hb.mono (by simp)); have F0 : Hid (Blk w4 b0 [.int .i64 h.fl, .int .i64 h.gp, .int .i64 h.ln, .int .i64 h.rf, .int .i64 h.sp, .int .i64 h.pu, .int .i64 h.br, .int .i64 h.dr, .int .i64 h.lv, .int .i64 h.dO, .int .i64 h.ld, .int .i64 h.qu]) := F0.out.below hb F0.out.lt; have F1 : Hid (Blk w4 b1 [.int .i64 0, .int .i64 0]) := F1.out.below hb F1.out.lt; have FB : Hid (Below w.heap.size w w4) := FB.out.trans (hb.mono FB.out.size); clear hb) | (refine store_new [.int .i64 K1, .int .i64 V1] 25 _ _ (by kernel_rfl) (by kernel_rfl) (by kernel_rfl) rfl rfl rfl rfl ?_))
    have FB0 := FB
    obtain ⟨b2, hbb⟩ : ∃ b2, b2 = w4.heap.size := ⟨_, rfl⟩
    obtain ⟨w5, hw2⟩ : ∃ w5, w5 = w4.alloc (.cells #[.int .i64 K1, .int .i64 V1] 25) := ⟨_, rfl⟩
    have nb2b0 : b0 < b2 := by rw [hbb]; exact F0.out.lt
    have nb2b1 : b1 < b2 := by rw [hbb]; exact F1.out.lt
    have F0 : Hid (Blk w5 b0 [.int .i64 h.fl, .int .i64 h.gp, .int .i64 h.ln, .int .i64 h.rf, .int .i64 h.sp, .int .i64 h.pu, .int .i64 h.br, .int .i64 h.dr, .int .i64 h.lv, .int .i64 h.dO, .int .i64 h.ld, .int .i64 h.qu]) := by rw [hw2]; exact F0.out.alloc _
    have F1 : Hid (Blk w5 b1 [.int .i64 0, .int .i64 0]) := by rw [hw2]; exact F1.out.alloc _
    have F2 : Hid (Blk w5 b2 [.int .i64 K1, .int .i64 V1]) := by rw [hw2]; exact Blk.at_ w4 #[.int .i64 K1, .int .i64 V1] _ _ hbb
    have FB : Hid (Below w.heap.size w w5) := by rw [hw2]; exact FB.out.alloc FB.out.size _
    have leb2 : w.heap.size ≤ b2 := by rw [hbb]; exact FB0.out.size
    rw [← hw2, ← hbb]
    clear hbb hw2 FB0
    clear CT
    cases hB : Hs.trpB h (Hs.rtL h) with
    | false =>
      obtain ⟨rfl, rfl, z1, z2⟩ := HT2.out hB
      have HZ : Hid (2 = K ∧ 0 = V) := ⟨z1, z2⟩
      have x0 := F2.out.c 0 _ rfl
      clear HT1 HT2 hB z1 z2
      go_wp2_with (first | (refine load_blk 25 _ Try.underlying25 (by kernel_rfl) F2.out rfl rfl rfl ?_) | (refine store_blk [.int .i64 2, .int .i64 0] 25 _ _ (by kernel_rfl) (by kernel_rfl) (by kernel_rfl) F1.out rfl rfl rfl rfl ?_))
      exact bodyPost_ret (v := .agg #[.int .i64 2, .int .i64 0]) ((F1.out.row [.int .i64 2, .int .i64 0]).res _ Try.results16 Try.underlying25 (by kernel_rfl) rfl) rfl ⟨ret_twoF HZ.out.1 HZ.out.2, below_row FB.out leb1 _⟩
    | true =>
      obtain ⟨rfl, e1, z1, z2⟩ := HT1.out hB
      subst e1
      have HZ : Hid (0 = K ∧ h.ld * Q = V) := ⟨z1, z2⟩
      have x0 := F2.out.c 0 _ rfl
      clear HT1 HT2 hB z1 z2
      go_upto_region 9 with fail
      clear x0 c00
      have F0 : Hid (Blk w5.drew b0 [.int .i64 h.fl, .int .i64 h.gp, .int .i64 h.ln, .int .i64 h.rf, .int .i64 h.sp, .int .i64 h.pu, .int .i64 h.br, .int .i64 h.dr, .int .i64 h.lv, .int .i64 h.dO, .int .i64 h.ld, .int .i64 h.qu]) := F0.out.below (Below.refl _ _).drew F0.out.lt
      have F1 : Hid (Blk w5.drew b1 [.int .i64 0, .int .i64 0]) := F1.out.below (Below.refl _ _).drew F1.out.lt
      have F2 : Hid (Blk w5.drew b2 [.int .i64 0, .int .i64 V1]) := F2.out.below (Below.refl _ _).drew F2.out.lt
      have FB : Hid (Below w.heap.size w w5.drew) := FB.out.drew
      refine wp_region_held_drew (S := (fun w'' => Blk w'' b0 ([.int .i64 h.fl, .int .i64 h.gp, .int .i64 h.ln, .int .i64 h.rf, .int .i64 h.sp, .int .i64 h.pu, .int .i64 h.br, .int .i64 h.dr, .int .i64 h.lv, .int .i64 h.dO, .int .i64 h.ld, .int .i64 h.qu]) ∧ Blk w'' b2 ([.int .i64 0, .int .i64 V1]))) (by kernel_rfl) (by (try dsimp only); first | exact ⟨F0.out, F2.out⟩ | go_keep) (fun hHeld => ?_)
      obtain ⟨v_1, hw1⟩ : ∃ v_1, v_1 = w5.drew := ⟨_, rfl⟩
      have F0 : Hid (Blk v_1 b0 [.int .i64 h.fl, .int .i64 h.gp, .int .i64 h.ln, .int .i64 h.rf, .int .i64 h.sp, .int .i64 h.pu, .int .i64 h.br, .int .i64 h.dr, .int .i64 h.lv, .int .i64 h.dO, .int .i64 h.ld, .int .i64 h.qu]) := by rw [hw1]; exact F0.out
      have F1 : Hid (Blk v_1 b1 [.int .i64 0, .int .i64 0]) := by rw [hw1]; exact F1.out
      have F2 : Hid (Blk v_1 b2 [.int .i64 0, .int .i64 V1]) := by rw [hw1]; exact F2.out
      have FB : Hid (Below w.heap.size w v_1) := by rw [hw1]; exact FB.out
      rw [← hw1] at hHeld ⊢
      clear hw1
      refine tkz 0 rfl ?_
      refine tkz 1 rfl ?_ (hy := Or.inl ⟨by kernel_rfl, by (intro wx hSw; have hq0_10 := hSw.1.c 10 _ rfl; (try dsimp only at hSw); go_simp <;> with_reducible rfl)⟩)
      refine tkz 2 rfl ?_
      refine tkz 3 rfl ?_
      refine tkz 4 rfl ?_ (hy := Or.inl ⟨by kernel_rfl, by (intro wx hSw; have hq1_1 := hSw.2.c 1 _ rfl; (try dsimp only at hSw); go_simp <;> with_reducible rfl)⟩)
      refine tkz 5 rfl ?_
      refine tkz 6 rfl ?_
      refine tkz 7 rfl ?_
      refine wpAnyH_ready (rs := [8]) (by kernel_rfl) (by simp) ?_
      refine (AllReadyH.cons rfl (fun K hK => ?_) AllReadyH.nil)
      have k0 := F1.out.c 0 _ rfl
      have k1 := F1.out.c 1 _ rfl
      have kf0 := F1.out.f 0 (Nat.le_of_ble_eq_true rfl)
      have kf1 := F1.out.f 1 (Nat.le_of_ble_eq_true rfl)
      go_simp
      obtain ⟨v_2, hw2⟩ : ∃ v_2, v_2 = putB v_1 b1 0 [.int .i64 0, .int .i64 (h.ld * Q)] := ⟨_, rfl⟩
      change K _ (putB v_1 b1 0 [.int .i64 0, .int .i64 (h.ld * Q)])
      rw [← hw2]
      clear k0 kf0 k1 kf1
      have F0 : Hid (Blk v_2 b0 [.int .i64 h.fl, .int .i64 h.gp, .int .i64 h.ln, .int .i64 h.rf, .int .i64 h.sp, .int .i64 h.pu, .int .i64 h.br, .int .i64 h.dr, .int .i64 h.lv, .int .i64 h.dO, .int .i64 h.ld, .int .i64 h.qu]) := by rw [hw2]; exact Blk.putB_other (by omega) _ 0 F0.out
      have F1 : Hid (Blk v_2 b1 [.int .i64 0, .int .i64 (h.ld * Q)]) := by rw [hw2]; exact F1.out.put [.int .i64 0, .int .i64 (h.ld * Q)] rfl
      have F2 : Hid (Blk v_2 b2 [.int .i64 0, .int .i64 V1]) := by rw [hw2]; exact Blk.putB_other (by omega) _ 0 F2.out
      have FB : Hid (Below w.heap.size w v_2) := by rw [hw2]; exact below_putB FB.out (by omega) _ 0
      clear hw2
      refine hK.out _ _ (by (try dsimp only); first | exact ⟨F0.out, F2.out⟩ | go_keep) (fun hHeld => ?_)
      clear hK K
      try simp only [Act.put, List.getElem_toArray, List.getElem_cons_succ, List.getElem_cons_zero, List.setIfInBounds_toArray, List.set_cons_zero, List.set_cons_succ]
      refine wpAnyH_done (by kernel_rfl) ?_ _
      go_wp2_with fail
      exact bodyPost_ret (v := .agg #[.int .i64 0, .int .i64 (h.ld * Q)]) (F1.out.res _ Try.results16 Try.underlying25 (by kernel_rfl) rfl) rfl ⟨ret_twoF HZ.out.1 HZ.out.2, FB.out⟩
set_option maxRecDepth 20000 in
set_option maxHeartbeats 16000000 in
theorem implHandledIn_any (h : Hs) (t : Int) (w : World) :
    Calls Try.prog 17 #[.agg #[.int .i64 h.fl, .int .i64 h.gp, .int .i64 h.ln, .int .i64 h.rf, .int .i64 h.sp, .int .i64 h.pu, .int .i64 h.br, .int .i64 h.dr, .int .i64 h.lv, .int .i64 h.dO, .int .i64 h.ld, .int .i64 h.qu], .int .i64 t] w (isAns w (Hs.hdK h 1000000000000000 t) (Hs.hdV h 1000000000000000 (fun T => h.ld * (t / T)) t)) := by
  obtain ⟨K, hK⟩ : ∃ K, Hs.hdK h 1000000000000000 t = K := ⟨_, rfl⟩
  obtain ⟨V, hV⟩ : ∃ V, Hs.hdV h 1000000000000000 (fun T => h.ld * (t / T)) t = V := ⟨_, rfl⟩
  rw [hK, hV]
  have HK : Hid (Hs.hdK h 1000000000000000 t = K) := hK
  have HV : Hid (Hs.hdV h 1000000000000000 (fun T => h.ld * (t / T)) t = V) := hV
  obtain ⟨ka, hka⟩ : ∃ ka, h.fault = ka := ⟨_, rfl⟩
  have HA : Hid (h.fault = ka) := hka
  clear hK hV hka
  obtain ⟨b0, hb0⟩ : ∃ b0, b0 = w.heap.size := ⟨_, rfl⟩
  obtain ⟨b1, hb1⟩ : ∃ b1, b1 = b0 + 1 := ⟨_, rfl⟩
  obtain ⟨W0, hW0⟩ : ∃ W0, W0 = (w.alloc (.cells #[.int .i64 h.fl, .int .i64 h.gp, .int .i64 h.ln, .int .i64 h.rf, .int .i64 h.sp, .int .i64 h.pu, .int .i64 h.br, .int .i64 h.dr, .int .i64 h.lv, .int .i64 h.dO, .int .i64 h.ld, .int .i64 h.qu] 27)).alloc (.cells #[.int .i64 0, .int .i64 0] 25) := ⟨_, rfl⟩
  have F0 : Hid (Blk W0 b0 [.int .i64 h.fl, .int .i64 h.gp, .int .i64 h.ln, .int .i64 h.rf, .int .i64 h.sp, .int .i64 h.pu, .int .i64 h.br, .int .i64 h.dr, .int .i64 h.lv, .int .i64 h.dO, .int .i64 h.ld, .int .i64 h.qu]) := by rw [hW0]; exact ((Blk.at_ _ #[.int .i64 h.fl, .int .i64 h.gp, .int .i64 h.ln, .int .i64 h.rf, .int .i64 h.sp, .int .i64 h.pu, .int .i64 h.br, .int .i64 h.dr, .int .i64 h.lv, .int .i64 h.dO, .int .i64 h.ld, .int .i64 h.qu] _ _ hb0).alloc _)
  have F1 : Hid (Blk W0 b1 [.int .i64 0, .int .i64 0]) := by rw [hW0]; exact (Blk.at_ _ #[.int .i64 0, .int .i64 0] _ _ (by simp; omega))
  have FB : Hid (Below w.heap.size w W0) := by rw [hW0]; exact (((Below.refl _ _).alloc (Nat.le_refl _) _).alloc (by simp) _)
  have leb0 : w.heap.size ≤ b0 := by omega
  have leb1 : w.heap.size ≤ b1 := by omega
  have l01 : b0 < b1 := by omega
  go_enter Try.func17, Try.ntmps17
  go_upto_region 1 with fail
  rw [← hb0, ← hb1, ← hW0]
  clear hb0 hb1 hW0
  go_upto_region 2 with (first | (refine load_blk 27 _ Try.underlying27 (by kernel_rfl) F0.out rfl rfl rfl ?_) | (go_at_call 25; refine (implFault_any h _).mono ?_; rw [HA.out]; rintro e w1 ⟨rfl, hb⟩; have F0 : Hid (Blk w1 b0 [.int .i64 h.fl, .int .i64 h.gp, .int .i64 h.ln, .int .i64 h.rf, .int .i64 h.sp, .int .i64 h.pu, .int .i64 h.br, .int .i64 h.dr, .int .i64 h.lv, .int .i64 h.dO, .int .i64 h.ld, .int .i64 h.qu]) := F0.out.below hb F0.out.lt; have F1 : Hid (Blk w1 b1 [.int .i64 0, .int .i64 0]) := F1.out.below hb F1.out.lt; have FB : Hid (Below w.heap.size w w1) := FB.out.trans (hb.mono FB.out.size); clear hb))
  have c00 := F0.out.c 0 _ rfl
  by_cases hz : ka = 0
  case neg =>
    have hn : (ka != 0) = true := by simpa using hz
    have HZ : Hid (ka = K ∧ 0 = V) := ⟨by rw [← HK.out]; unfold Hs.hdK; rw [HA.out, if_neg hz], by rw [← HV.out]; unfold Hs.hdV; rw [HA.out, if_neg hz]⟩
    go_wp2_with (refine store_blk [.int .i64 ka, .int .i64 0] 25 _ _ (by kernel_rfl) (by kernel_rfl) (by kernel_rfl) F1.out rfl rfl rfl rfl ?_)
    exact bodyPost_ret (v := .agg #[.int .i64 ka, .int .i64 0]) ((F1.out.row [.int .i64 ka, .int .i64 0]).res _ Try.results17 Try.underlying25 (by kernel_rfl) rfl) rfl ⟨ret_twoF HZ.out.1 HZ.out.2, below_row FB.out leb1 _⟩
  case pos =>
  subst hz
  have o : h.Ok := Hs.ok_of (Hs.fault_zero HA.out).1
  have f1 := o.fl1
  have f2 := o.fl2
  have ld1 := o.ld1
  have ld2 := o.ld2
  cases hin : inB t 0 1000000000000000 with
  | false =>
    have HZ : Hid (3 = K ∧ 0 = V) := ⟨by rw [← HK.out]; unfold Hs.hdK; rw [HA.out, if_pos rfl, if_neg (by simp [hin])], by rw [← HV.out]; unfold Hs.hdV; rw [HA.out, if_pos rfl, if_neg (by simp [hin])]⟩
    go_wp2_with (first | (go_at_call 35; refine (isWithin_any t 0 1000000000000000 _).mono ?_; rw [hin]; rintro e w' ⟨rfl, hw⟩; obtain rfl := hw.symm; clear hw) | (refine store_blk [.int .i64 3, .int .i64 0] 25 _ _ (by kernel_rfl) (by kernel_rfl) (by kernel_rfl) F1.out rfl rfl rfl rfl ?_))
    exact bodyPost_ret (v := .agg #[.int .i64 3, .int .i64 0]) ((F1.out.row [.int .i64 3, .int .i64 0]).res _ Try.results17 Try.underlying25 (by kernel_rfl) rfl) rfl ⟨ret_twoF HZ.out.1 HZ.out.2, below_row FB.out leb1 _⟩
  | true =>
    have bt := inB_iff.1 hin
    have HKA : Hid (Hs.trpK h (Hs.rtL h) = K) := by show _ = K; rw [← HK.out]; unfold Hs.hdK; rw [HA.out, if_pos rfl, if_pos hin]
    have HVA : Hid ((if Hs.trpB h (Hs.rtL h) = true then (fun T => h.ld * (t / T)) (Hs.trpT h (Hs.rtL h)) else 0) = V) := by show _ = V; rw [← HV.out]; unfold Hs.hdV; rw [HA.out, if_pos rfl, if_pos hin]
    obtain ⟨K1, hK1⟩ : ∃ K1, Hs.trpK h (Hs.rtL h) = K1 := ⟨_, rfl⟩
    obtain ⟨V1, hV1⟩ : ∃ V1, Hs.trpV h (Hs.rtL h) = V1 := ⟨_, rfl⟩
    have bT := rt_bd o
    obtain ⟨T, hT⟩ : ∃ T, Hs.trpT h (Hs.rtL h) = T := ⟨_, rfl⟩
    have HT1 : Hid (Hs.trpB h (Hs.rtL h) = true → K1 = 0 ∧ V1 = T ∧ 0 = K ∧ h.ld * (t / T) = V) := fun z => by
      have y := trp_yes z
      rw [hK1, hV1, hT] at y
      refine ⟨y.1, y.2.1, by rw [← HKA.out, hK1, y.1], ?_⟩
      rw [← HVA.out, if_pos z, hT]
    have HT2 : Hid (Hs.trpB h (Hs.rtL h) = false → K1 = 2 ∧ V1 = 0 ∧ 2 = K ∧ 0 = V) := fun z => by
      have y := trp_no z
      rw [hK1, hV1] at y
      refine ⟨y.1, y.2.1, by rw [← HKA.out, hK1, y.1], ?_⟩
      rw [← HVA.out, z]; rfl
    rw [hT] at bT
    have CT : ∀ W, Calls Try.prog 36 #[.agg #[.int .i64 h.fl, .int .i64 h.gp, .int .i64 h.ln, .int .i64 h.rf, .int .i64 h.sp, .int .i64 h.pu, .int .i64 h.br, .int .i64 h.dr, .int .i64 h.lv, .int .i64 h.dO, .int .i64 h.ld, .int .i64 h.qu]] W (isAns W K1 V1) := fun W => by have z := roundTrip_any h HA.out W; rw [hK1, hV1] at z; exact z
    have bq := quo_le (t := t) (T := T) bt.1 (by omega)
    have et : Int.tdiv t T = t / T := Int.tdiv_eq_ediv_of_nonneg bt.1
    have hT0 : (T == 0) = false := by simp; omega
    have hT1 : ¬ T = 0 := by omega
    obtain ⟨Q, hQ⟩ : ∃ Q, t / T = Q := ⟨_, rfl⟩
    rw [hQ] at bq et HT1
    have bm := ld_mul (l := h.ld) (q := Q) (M := 1000000000000000) (by omega) (by omega) bq.1 (by omega)
    have em : IntKind.i64.wrap (h.ld * Q) = h.ld * Q := IntWalk.i64_in _ (by omega)
    have eq : IntKind.i64.wrap Q = Q := IntWalk.i64_in _ (by omega)
    clear bm
    clear HK HV HKA HVA hK1 hV1 hT o
    go_upto_region 7 with (first | (refine load_blk 27 _ Try.underlying27 (by kernel_rfl) F0.out rfl rfl rfl ?_) | (go_at_call 35; refine (isWithin_any t 0 1000000000000000 _).mono ?_; rw [hin]; rintro e w' ⟨rfl, hw⟩; obtain rfl := hw.symm; clear hw) | (go_at_call 36; refine (CT _).mono ?_; rintro e w4 ⟨rfl, hb⟩; have F0 : Hid (Blk w4 b0 [.int .i64 h.fl, .int .i64 h.gp, .int .i64 h.ln, .int .i64 h.rf, .int .i64 h.sp, .int .i64 h.pu, .int .i64 h.br, .int .i64 h.dr, .int .i64 h.lv, .int .i64 h.dO, .int .i64 h.ld, .int .i64 h.qu]) := F0.out.below hb F0.out.lt; have F1 : Hid (Blk w4 b1 [.int .i64 0, .int .i64 0]) := F1.out.below hb F1.out.lt; have FB : Hid (Below w.heap.size w w4) := FB.out.trans (hb.mono FB.out.size); clear hb) | (refine store_new [.int .i64 K1, .int .i64 V1] 25 _ _ (by kernel_rfl) (by kernel_rfl) (by kernel_rfl) rfl rfl rfl rfl ?_))
    have FB0 := FB
    obtain ⟨b2, hbb⟩ : ∃ b2, b2 = w4.heap.size := ⟨_, rfl⟩
    obtain ⟨w5, hw2⟩ : ∃ w5, w5 = w4.alloc (.cells #[.int .i64 K1, .int .i64 V1] 25) := ⟨_, rfl⟩
    have nb2b0 : b0 < b2 := by rw [hbb]; exact F0.out.lt
    have nb2b1 : b1 < b2 := by rw [hbb]; exact F1.out.lt
    have F0 : Hid (Blk w5 b0 [.int .i64 h.fl, .int .i64 h.gp, .int .i64 h.ln, .int .i64 h.rf, .int .i64 h.sp, .int .i64 h.pu, .int .i64 h.br, .int .i64 h.dr, .int .i64 h.lv, .int .i64 h.dO, .int .i64 h.ld, .int .i64 h.qu]) := by rw [hw2]; exact F0.out.alloc _
    have F1 : Hid (Blk w5 b1 [.int .i64 0, .int .i64 0]) := by rw [hw2]; exact F1.out.alloc _
    have F2 : Hid (Blk w5 b2 [.int .i64 K1, .int .i64 V1]) := by rw [hw2]; exact Blk.at_ w4 #[.int .i64 K1, .int .i64 V1] _ _ hbb
    have FB : Hid (Below w.heap.size w w5) := by rw [hw2]; exact FB.out.alloc FB.out.size _
    have leb2 : w.heap.size ≤ b2 := by rw [hbb]; exact FB0.out.size
    rw [← hw2, ← hbb]
    clear hbb hw2 FB0
    clear CT
    cases hB : Hs.trpB h (Hs.rtL h) with
    | false =>
      obtain ⟨rfl, rfl, z1, z2⟩ := HT2.out hB
      have HZ : Hid (2 = K ∧ 0 = V) := ⟨z1, z2⟩
      have x0 := F2.out.c 0 _ rfl
      clear HT1 HT2 hB z1 z2
      go_wp2_with (first | (refine load_blk 25 _ Try.underlying25 (by kernel_rfl) F2.out rfl rfl rfl ?_) | (refine store_blk [.int .i64 2, .int .i64 0] 25 _ _ (by kernel_rfl) (by kernel_rfl) (by kernel_rfl) F1.out rfl rfl rfl rfl ?_))
      exact bodyPost_ret (v := .agg #[.int .i64 2, .int .i64 0]) ((F1.out.row [.int .i64 2, .int .i64 0]).res _ Try.results17 Try.underlying25 (by kernel_rfl) rfl) rfl ⟨ret_twoF HZ.out.1 HZ.out.2, below_row FB.out leb1 _⟩
    | true =>
      obtain ⟨rfl, e1, z1, z2⟩ := HT1.out hB
      subst e1
      have HZ : Hid (0 = K ∧ h.ld * Q = V) := ⟨z1, z2⟩
      have x0 := F2.out.c 0 _ rfl
      clear HT1 HT2 hB z1 z2
      go_upto_region 9 with fail
      clear x0 c00
      have F0 : Hid (Blk w5.drew b0 [.int .i64 h.fl, .int .i64 h.gp, .int .i64 h.ln, .int .i64 h.rf, .int .i64 h.sp, .int .i64 h.pu, .int .i64 h.br, .int .i64 h.dr, .int .i64 h.lv, .int .i64 h.dO, .int .i64 h.ld, .int .i64 h.qu]) := F0.out.below (Below.refl _ _).drew F0.out.lt
      have F1 : Hid (Blk w5.drew b1 [.int .i64 0, .int .i64 0]) := F1.out.below (Below.refl _ _).drew F1.out.lt
      have F2 : Hid (Blk w5.drew b2 [.int .i64 0, .int .i64 V1]) := F2.out.below (Below.refl _ _).drew F2.out.lt
      have FB : Hid (Below w.heap.size w w5.drew) := FB.out.drew
      refine wp_region_held_drew (S := (fun w'' => Blk w'' b0 ([.int .i64 h.fl, .int .i64 h.gp, .int .i64 h.ln, .int .i64 h.rf, .int .i64 h.sp, .int .i64 h.pu, .int .i64 h.br, .int .i64 h.dr, .int .i64 h.lv, .int .i64 h.dO, .int .i64 h.ld, .int .i64 h.qu]) ∧ Blk w'' b2 ([.int .i64 0, .int .i64 V1]))) (by kernel_rfl) (by (try dsimp only); first | exact ⟨F0.out, F2.out⟩ | go_keep) (fun hHeld => ?_)
      obtain ⟨v_3, hw1⟩ : ∃ v_3, v_3 = w5.drew := ⟨_, rfl⟩
      have F0 : Hid (Blk v_3 b0 [.int .i64 h.fl, .int .i64 h.gp, .int .i64 h.ln, .int .i64 h.rf, .int .i64 h.sp, .int .i64 h.pu, .int .i64 h.br, .int .i64 h.dr, .int .i64 h.lv, .int .i64 h.dO, .int .i64 h.ld, .int .i64 h.qu]) := by rw [hw1]; exact F0.out
      have F1 : Hid (Blk v_3 b1 [.int .i64 0, .int .i64 0]) := by rw [hw1]; exact F1.out
      have F2 : Hid (Blk v_3 b2 [.int .i64 0, .int .i64 V1]) := by rw [hw1]; exact F2.out
      have FB : Hid (Below w.heap.size w v_3) := by rw [hw1]; exact FB.out
      rw [← hw1] at hHeld ⊢
      clear hw1
      refine tkz 0 rfl ?_
      refine tkz 1 rfl ?_ (hy := Or.inl ⟨by kernel_rfl, by (intro wx hSw; have hq0_10 := hSw.1.c 10 _ rfl; (try dsimp only at hSw); go_simp <;> with_reducible rfl)⟩)
      refine tkz 2 rfl ?_
      refine tkz 3 rfl ?_
      refine tkz 4 rfl ?_ (hy := Or.inl ⟨by kernel_rfl, by (intro wx hSw; have hq1_1 := hSw.2.c 1 _ rfl; (try dsimp only at hSw); go_simp <;> with_reducible rfl)⟩)
      refine tkz 5 rfl ?_
      refine tkz 6 rfl ?_
      refine tkz 7 rfl ?_
      refine wpAnyH_ready (rs := [8]) (by kernel_rfl) (by simp) ?_
      refine (AllReadyH.cons rfl (fun K hK => ?_) AllReadyH.nil)
      have k0 := F1.out.c 0 _ rfl
      have k1 := F1.out.c 1 _ rfl
      have kf0 := F1.out.f 0 (Nat.le_of_ble_eq_true rfl)
      have kf1 := F1.out.f 1 (Nat.le_of_ble_eq_true rfl)
      go_simp
      obtain ⟨v_4, hw2⟩ : ∃ v_4, v_4 = putB v_3 b1 0 [.int .i64 0, .int .i64 (h.ld * Q)] := ⟨_, rfl⟩
      change K _ (putB v_3 b1 0 [.int .i64 0, .int .i64 (h.ld * Q)])
      rw [← hw2]
      clear k0 kf0 k1 kf1
      have F0 : Hid (Blk v_4 b0 [.int .i64 h.fl, .int .i64 h.gp, .int .i64 h.ln, .int .i64 h.rf, .int .i64 h.sp, .int .i64 h.pu, .int .i64 h.br, .int .i64 h.dr, .int .i64 h.lv, .int .i64 h.dO, .int .i64 h.ld, .int .i64 h.qu]) := by rw [hw2]; exact Blk.putB_other (by omega) _ 0 F0.out
      have F1 : Hid (Blk v_4 b1 [.int .i64 0, .int .i64 (h.ld * Q)]) := by rw [hw2]; exact F1.out.put [.int .i64 0, .int .i64 (h.ld * Q)] rfl
      have F2 : Hid (Blk v_4 b2 [.int .i64 0, .int .i64 V1]) := by rw [hw2]; exact Blk.putB_other (by omega) _ 0 F2.out
      have FB : Hid (Below w.heap.size w v_4) := by rw [hw2]; exact below_putB FB.out (by omega) _ 0
      clear hw2
      refine hK.out _ _ (by (try dsimp only); first | exact ⟨F0.out, F2.out⟩ | go_keep) (fun hHeld => ?_)
      clear hK K
      try simp only [Act.put, List.getElem_toArray, List.getElem_cons_succ, List.getElem_cons_zero, List.setIfInBounds_toArray, List.set_cons_zero, List.set_cons_succ]
      refine wpAnyH_done (by kernel_rfl) ?_ _
      go_wp2_with fail
      exact bodyPost_ret (v := .agg #[.int .i64 0, .int .i64 (h.ld * Q)]) (F1.out.res _ Try.results17 Try.underlying25 (by kernel_rfl) rfl) rfl ⟨ret_twoF HZ.out.1 HZ.out.2, FB.out⟩
set_option maxRecDepth 20000 in
set_option maxHeartbeats 16000000 in
theorem specUpPeak_any (h : Hs) (t : Int) (w : World) :
    Calls Try.prog 20 #[.agg #[.int .i64 h.fl, .int .i64 h.gp, .int .i64 h.ln, .int .i64 h.rf, .int .i64 h.sp, .int .i64 h.pu, .int .i64 h.br, .int .i64 h.dr, .int .i64 h.lv, .int .i64 h.dO, .int .i64 h.ld, .int .i64 h.qu], .int .i64 t] w (isAns w (Hs.hdK h 1000000 t) (Hs.hdV h 1000000 (fun T => (t + h.ld - 1) / h.ld * T) t)) := by
  obtain ⟨K, hK⟩ : ∃ K, Hs.hdK h 1000000 t = K := ⟨_, rfl⟩
  obtain ⟨V, hV⟩ : ∃ V, Hs.hdV h 1000000 (fun T => (t + h.ld - 1) / h.ld * T) t = V := ⟨_, rfl⟩
  rw [hK, hV]
  have HK : Hid (Hs.hdK h 1000000 t = K) := hK
  have HV : Hid (Hs.hdV h 1000000 (fun T => (t + h.ld - 1) / h.ld * T) t = V) := hV
  obtain ⟨ka, hka⟩ : ∃ ka, h.fault = ka := ⟨_, rfl⟩
  have HA : Hid (h.fault = ka) := hka
  clear hK hV hka
  obtain ⟨b0, hb0⟩ : ∃ b0, b0 = w.heap.size := ⟨_, rfl⟩
  obtain ⟨b1, hb1⟩ : ∃ b1, b1 = b0 + 1 := ⟨_, rfl⟩
  obtain ⟨W0, hW0⟩ : ∃ W0, W0 = (w.alloc (.cells #[.int .i64 h.fl, .int .i64 h.gp, .int .i64 h.ln, .int .i64 h.rf, .int .i64 h.sp, .int .i64 h.pu, .int .i64 h.br, .int .i64 h.dr, .int .i64 h.lv, .int .i64 h.dO, .int .i64 h.ld, .int .i64 h.qu] 27)).alloc (.cells #[.int .i64 0, .int .i64 0] 25) := ⟨_, rfl⟩
  have F0 : Hid (Blk W0 b0 [.int .i64 h.fl, .int .i64 h.gp, .int .i64 h.ln, .int .i64 h.rf, .int .i64 h.sp, .int .i64 h.pu, .int .i64 h.br, .int .i64 h.dr, .int .i64 h.lv, .int .i64 h.dO, .int .i64 h.ld, .int .i64 h.qu]) := by rw [hW0]; exact ((Blk.at_ _ #[.int .i64 h.fl, .int .i64 h.gp, .int .i64 h.ln, .int .i64 h.rf, .int .i64 h.sp, .int .i64 h.pu, .int .i64 h.br, .int .i64 h.dr, .int .i64 h.lv, .int .i64 h.dO, .int .i64 h.ld, .int .i64 h.qu] _ _ hb0).alloc _)
  have F1 : Hid (Blk W0 b1 [.int .i64 0, .int .i64 0]) := by rw [hW0]; exact (Blk.at_ _ #[.int .i64 0, .int .i64 0] _ _ (by simp; omega))
  have FB : Hid (Below w.heap.size w W0) := by rw [hW0]; exact (((Below.refl _ _).alloc (Nat.le_refl _) _).alloc (by simp) _)
  have leb0 : w.heap.size ≤ b0 := by omega
  have leb1 : w.heap.size ≤ b1 := by omega
  have l01 : b0 < b1 := by omega
  go_enter Try.func20, Try.ntmps20
  go_upto_region 1 with fail
  rw [← hb0, ← hb1, ← hW0]
  clear hb0 hb1 hW0
  go_upto_region 2 with (first | (refine load_blk 27 _ Try.underlying27 (by kernel_rfl) F0.out rfl rfl rfl ?_) | (go_at_call 22; refine (specFault_any h _).mono ?_; rw [HA.out]; rintro e w1 ⟨rfl, hb⟩; have F0 : Hid (Blk w1 b0 [.int .i64 h.fl, .int .i64 h.gp, .int .i64 h.ln, .int .i64 h.rf, .int .i64 h.sp, .int .i64 h.pu, .int .i64 h.br, .int .i64 h.dr, .int .i64 h.lv, .int .i64 h.dO, .int .i64 h.ld, .int .i64 h.qu]) := F0.out.below hb F0.out.lt; have F1 : Hid (Blk w1 b1 [.int .i64 0, .int .i64 0]) := F1.out.below hb F1.out.lt; have FB : Hid (Below w.heap.size w w1) := FB.out.trans (hb.mono FB.out.size); clear hb))
  have c00 := F0.out.c 0 _ rfl
  by_cases hz : ka = 0
  case neg =>
    have hn : (ka != 0) = true := by simpa using hz
    have HZ : Hid (ka = K ∧ 0 = V) := ⟨by rw [← HK.out]; unfold Hs.hdK; rw [HA.out, if_neg hz], by rw [← HV.out]; unfold Hs.hdV; rw [HA.out, if_neg hz]⟩
    go_wp2_with (refine store_blk [.int .i64 ka, .int .i64 0] 25 _ _ (by kernel_rfl) (by kernel_rfl) (by kernel_rfl) F1.out rfl rfl rfl rfl ?_)
    exact bodyPost_ret (v := .agg #[.int .i64 ka, .int .i64 0]) ((F1.out.row [.int .i64 ka, .int .i64 0]).res _ Try.results20 Try.underlying25 (by kernel_rfl) rfl) rfl ⟨ret_twoF HZ.out.1 HZ.out.2, below_row FB.out leb1 _⟩
  case pos =>
  subst hz
  have o : h.Ok := Hs.ok_of (Hs.fault_zero HA.out).1
  have f1 := o.fl1
  have f2 := o.fl2
  have ld1 := o.ld1
  have ld2 := o.ld2
  cases hin : inB t 0 1000000 with
  | false =>
    have HZ : Hid (3 = K ∧ 0 = V) := ⟨by rw [← HK.out]; unfold Hs.hdK; rw [HA.out, if_pos rfl, if_neg (by simp [hin])], by rw [← HV.out]; unfold Hs.hdV; rw [HA.out, if_pos rfl, if_neg (by simp [hin])]⟩
    go_wp2_with (first | (go_at_call 23; refine (l1In_any t 0 1000000 _).mono ?_; rw [hin]; rintro e w' ⟨rfl, hw⟩; obtain rfl := hw.symm; clear hw) | (refine store_blk [.int .i64 3, .int .i64 0] 25 _ _ (by kernel_rfl) (by kernel_rfl) (by kernel_rfl) F1.out rfl rfl rfl rfl ?_))
    exact bodyPost_ret (v := .agg #[.int .i64 3, .int .i64 0]) ((F1.out.row [.int .i64 3, .int .i64 0]).res _ Try.results20 Try.underlying25 (by kernel_rfl) rfl) rfl ⟨ret_twoF HZ.out.1 HZ.out.2, below_row FB.out leb1 _⟩
  | true =>
    have bt := inB_iff.1 hin
    have HKA : Hid (Hs.trpK h (Hs.rtL h) = K) := by show _ = K; rw [← HK.out]; unfold Hs.hdK; rw [HA.out, if_pos rfl, if_pos hin]
    have HVA : Hid ((if Hs.trpB h (Hs.rtL h) = true then (fun T => (t + h.ld - 1) / h.ld * T) (Hs.trpT h (Hs.rtL h)) else 0) = V) := by show _ = V; rw [← HV.out]; unfold Hs.hdV; rw [HA.out, if_pos rfl, if_pos hin]
    obtain ⟨K1, hK1⟩ : ∃ K1, Hs.trpK h (Hs.rtL h) = K1 := ⟨_, rfl⟩
    obtain ⟨V1, hV1⟩ : ∃ V1, Hs.trpV h (Hs.rtL h) = V1 := ⟨_, rfl⟩
    have bT := rt_bd o
    obtain ⟨T, hT⟩ : ∃ T, Hs.trpT h (Hs.rtL h) = T := ⟨_, rfl⟩
    have HT1 : Hid (Hs.trpB h (Hs.rtL h) = true → K1 = 0 ∧ V1 = T ∧ 0 = K ∧ (t + h.ld - 1) / h.ld * T = V) := fun z => by
      have y := trp_yes z
      rw [hK1, hV1, hT] at y
      refine ⟨y.1, y.2.1, by rw [← HKA.out, hK1, y.1], ?_⟩
      rw [← HVA.out, if_pos z, hT]
    have HT2 : Hid (Hs.trpB h (Hs.rtL h) = false → K1 = 2 ∧ V1 = 0 ∧ 2 = K ∧ 0 = V) := fun z => by
      have y := trp_no z
      rw [hK1, hV1] at y
      refine ⟨y.1, y.2.1, by rw [← HKA.out, hK1, y.1], ?_⟩
      rw [← HVA.out, z]; rfl
    rw [hT] at bT
    have CT : ∀ (W : World) (g : Nat), g < W.heap.size → W.cell? ⟨g, 0, none⟩ = some (.int .i64 0) → W.cell? ⟨g, 1, none⟩ = some (.int .i64 (h.fl - 1)) → W.cell? ⟨g, 2, none⟩ = some (.int .i64 0) → Calls Try.prog 30 #[.agg #[.int .i64 h.fl, .int .i64 h.gp, .int .i64 h.ln, .int .i64 h.rf, .int .i64 h.sp, .int .i64 h.pu, .int .i64 h.br, .int .i64 h.dr, .int .i64 h.lv, .int .i64 h.dO, .int .i64 h.ld, .int .i64 h.qu], .slice (some ⟨g, 0, none⟩) 3 3] W (isAns W K1 V1) := fun W g hg c0 c1 c2 => by
      have z := l14Trip_any h HA.out (Hs.rtL h) (some ⟨g, 0, none⟩) 3 (by simp [Hs.rtL]) (rt_fls o) W (rt_iin hg c0 c1 c2)
      rw [hK1, hV1] at z
      exact z
    have ew : IntKind.i64.wrap (h.fl - 1) = h.fl - 1 := IntWalk.i64_in _ (by omega)
    have bq := up_le bt.1 bt.2 ld1 ld2
    have CU : ∀ W, Calls Try.prog 37 #[.int .i64 t, .int .i64 h.ld] W fun e w' => e = .returned (.int .i64 ((t + h.ld - 1) / h.ld)) ∧ w' = W := fun W => l1Up_any _ _ (by omega) (by omega) (by omega) (by omega) W
    obtain ⟨Q, hQ⟩ : ∃ Q, (t + h.ld - 1) / h.ld = Q := ⟨_, rfl⟩
    rw [hQ] at bq CU HT1
    have bm := mul_bd (x := Q) (X := 1000020) (y := T) (Y := 100000) (by omega) (by omega) (by omega) (by omega)
    have em : IntKind.i64.wrap (Q * T) = Q * T := IntWalk.i64_in _ (by omega)
    clear hQ bm
    clear HK HV HKA HVA hK1 hV1 hT o
    go_upto_region 7 with (first | (refine load_blk 27 _ Try.underlying27 (by kernel_rfl) F0.out rfl rfl rfl ?_) | (go_at_call 23; refine (l1In_any t 0 1000000 _).mono ?_; rw [hin]; rintro e w' ⟨rfl, hw⟩; obtain rfl := hw.symm; clear hw) | (go_at_call 30; refine (CT _ w1.heap.size (by simp) (by simp) (by simp) (by simp)).mono ?_; rintro e w4 ⟨rfl, hb⟩; have hb : Below w1.heap.size w1 w4 := ((Below.refl _ _).alloc (Nat.le_refl _) _).trans (hb.mono (by simp)); have F0 : Hid (Blk w4 b0 [.int .i64 h.fl, .int .i64 h.gp, .int .i64 h.ln, .int .i64 h.rf, .int .i64 h.sp, .int .i64 h.pu, .int .i64 h.br, .int .i64 h.dr, .int .i64 h.lv, .int .i64 h.dO, .int .i64 h.ld, .int .i64 h.qu]) := F0.out.below hb F0.out.lt; have F1 : Hid (Blk w4 b1 [.int .i64 0, .int .i64 0]) := F1.out.below hb F1.out.lt; have FB : Hid (Below w.heap.size w w4) := FB.out.trans (hb.mono FB.out.size); clear hb) | (refine store_new [.int .i64 K1, .int .i64 V1] 25 _ _ (by kernel_rfl) (by kernel_rfl) (by kernel_rfl) rfl rfl rfl rfl ?_))
    have FB0 := FB
    obtain ⟨b2, hbb⟩ : ∃ b2, b2 = w4.heap.size := ⟨_, rfl⟩
    obtain ⟨w5, hw2⟩ : ∃ w5, w5 = w4.alloc (.cells #[.int .i64 K1, .int .i64 V1] 25) := ⟨_, rfl⟩
    have nb2b0 : b0 < b2 := by rw [hbb]; exact F0.out.lt
    have nb2b1 : b1 < b2 := by rw [hbb]; exact F1.out.lt
    have F0 : Hid (Blk w5 b0 [.int .i64 h.fl, .int .i64 h.gp, .int .i64 h.ln, .int .i64 h.rf, .int .i64 h.sp, .int .i64 h.pu, .int .i64 h.br, .int .i64 h.dr, .int .i64 h.lv, .int .i64 h.dO, .int .i64 h.ld, .int .i64 h.qu]) := by rw [hw2]; exact F0.out.alloc _
    have F1 : Hid (Blk w5 b1 [.int .i64 0, .int .i64 0]) := by rw [hw2]; exact F1.out.alloc _
    have F2 : Hid (Blk w5 b2 [.int .i64 K1, .int .i64 V1]) := by rw [hw2]; exact Blk.at_ w4 #[.int .i64 K1, .int .i64 V1] _ _ hbb
    have FB : Hid (Below w.heap.size w w5) := by rw [hw2]; exact FB.out.alloc FB.out.size _
    have leb2 : w.heap.size ≤ b2 := by rw [hbb]; exact FB0.out.size
    rw [← hw2, ← hbb]
    clear hbb hw2 FB0
    clear CT
    cases hB : Hs.trpB h (Hs.rtL h) with
    | false =>
      obtain ⟨rfl, rfl, z1, z2⟩ := HT2.out hB
      have HZ : Hid (2 = K ∧ 0 = V) := ⟨z1, z2⟩
      have x0 := F2.out.c 0 _ rfl
      clear HT1 HT2 hB z1 z2
      go_wp2_with (first | (refine load_blk 25 _ Try.underlying25 (by kernel_rfl) F2.out rfl rfl rfl ?_) | (refine store_blk [.int .i64 2, .int .i64 0] 25 _ _ (by kernel_rfl) (by kernel_rfl) (by kernel_rfl) F1.out rfl rfl rfl rfl ?_))
      exact bodyPost_ret (v := .agg #[.int .i64 2, .int .i64 0]) ((F1.out.row [.int .i64 2, .int .i64 0]).res _ Try.results20 Try.underlying25 (by kernel_rfl) rfl) rfl ⟨ret_twoF HZ.out.1 HZ.out.2, below_row FB.out leb1 _⟩
    | true =>
      obtain ⟨rfl, e1, z1, z2⟩ := HT1.out hB
      subst e1
      have HZ : Hid (0 = K ∧ Q * V1 = V) := ⟨z1, z2⟩
      have x0 := F2.out.c 0 _ rfl
      clear HT1 HT2 hB z1 z2
      go_upto_region 9 with fail
      clear x0 c00
      have F0 : Hid (Blk w5.drew b0 [.int .i64 h.fl, .int .i64 h.gp, .int .i64 h.ln, .int .i64 h.rf, .int .i64 h.sp, .int .i64 h.pu, .int .i64 h.br, .int .i64 h.dr, .int .i64 h.lv, .int .i64 h.dO, .int .i64 h.ld, .int .i64 h.qu]) := F0.out.below (Below.refl _ _).drew F0.out.lt
      have F1 : Hid (Blk w5.drew b1 [.int .i64 0, .int .i64 0]) := F1.out.below (Below.refl _ _).drew F1.out.lt
      have F2 : Hid (Blk w5.drew b2 [.int .i64 0, .int .i64 V1]) := F2.out.below (Below.refl _ _).drew F2.out.lt
      have FB : Hid (Below w.heap.size w w5.drew) := FB.out.drew
      refine wp_region_held_drew (S := (fun w'' => Blk w'' b0 ([.int .i64 h.fl, .int .i64 h.gp, .int .i64 h.ln, .int .i64 h.rf, .int .i64 h.sp, .int .i64 h.pu, .int .i64 h.br, .int .i64 h.dr, .int .i64 h.lv, .int .i64 h.dO, .int .i64 h.ld, .int .i64 h.qu]) ∧ Blk w'' b2 ([.int .i64 0, .int .i64 V1]))) (by kernel_rfl) (by (try dsimp only); first | exact ⟨F0.out, F2.out⟩ | go_keep) (fun hHeld => ?_)
      obtain ⟨v_5, hw1⟩ : ∃ v_5, v_5 = w5.drew := ⟨_, rfl⟩
      have F0 : Hid (Blk v_5 b0 [.int .i64 h.fl, .int .i64 h.gp, .int .i64 h.ln, .int .i64 h.rf, .int .i64 h.sp, .int .i64 h.pu, .int .i64 h.br, .int .i64 h.dr, .int .i64 h.lv, .int .i64 h.dO, .int .i64 h.ld, .int .i64 h.qu]) := by rw [hw1]; exact F0.out
      have F1 : Hid (Blk v_5 b1 [.int .i64 0, .int .i64 0]) := by rw [hw1]; exact F1.out
      have F2 : Hid (Blk v_5 b2 [.int .i64 0, .int .i64 V1]) := by rw [hw1]; exact F2.out
      have FB : Hid (Below w.heap.size w v_5) := by rw [hw1]; exact FB.out
      rw [← hw1] at hHeld ⊢
      clear hw1
      refine tkz 0 rfl ?_
      refine tkz 1 rfl ?_
      refine tkz 2 rfl ?_ (hy := Or.inl ⟨by kernel_rfl, by (intro wx hSw; have hq0_10 := hSw.1.c 10 _ rfl; (try dsimp only at hSw); go_simp <;> with_reducible rfl)⟩)
      refine tkz 4 rfl ?_
      refine tkz 5 rfl ?_ (hy := Or.inl ⟨by kernel_rfl, by (intro wx hSw; have hq1_1 := hSw.2.c 1 _ rfl; (try dsimp only at hSw); go_simp <;> with_reducible rfl)⟩)
      refine wpAnyH_ready (rs := [3]) (by kernel_rfl) (by simp) ?_
      refine (AllReadyH.cons rfl (fun K hK => ?_) AllReadyH.nil)
      go_simp
      refine (CU _).mono ?_
      rintro e w_ ⟨rfl, hw⟩
      obtain rfl := hw.symm
      clear hw
      try dsimp only
      refine hK.out _ _ (by (try dsimp only); first | exact ⟨F0.out, F2.out⟩ | go_keep) (fun hHeld => ?_)
      clear hK K
      try simp only [Act.put, List.getElem_toArray, List.getElem_cons_succ, List.getElem_cons_zero, List.setIfInBounds_toArray, List.set_cons_zero, List.set_cons_succ]
      refine tkz 6 rfl ?_
      refine tkz 7 rfl ?_
      refine wpAnyH_ready (rs := [8]) (by kernel_rfl) (by simp) ?_
      refine (AllReadyH.cons rfl (fun K hK => ?_) AllReadyH.nil)
      have k0 := F1.out.c 0 _ rfl
      have k1 := F1.out.c 1 _ rfl
      have kf0 := F1.out.f 0 (Nat.le_of_ble_eq_true rfl)
      have kf1 := F1.out.f 1 (Nat.le_of_ble_eq_true rfl)
      go_simp
      obtain ⟨v_6, hw2⟩ : ∃ v_6, v_6 = putB v_5 b1 0 [.int .i64 0, .int .i64 (Q * V1)] := ⟨_, rfl⟩
      change K _ (putB v_5 b1 0 [.int .i64 0, .int .i64 (Q * V1)])
      rw [← hw2]
      clear k0 kf0 k1 kf1
      have F0 : Hid (Blk v_6 b0 [.int .i64 h.fl, .int .i64 h.gp, .int .i64 h.ln, .int .i64 h.rf, .int .i64 h.sp, .int .i64 h.pu, .int .i64 h.br, .int .i64 h.dr, .int .i64 h.lv, .int .i64 h.dO, .int .i64 h.ld, .int .i64 h.qu]) := by rw [hw2]; exact Blk.putB_other (by omega) _ 0 F0.out
      have F1 : Hid (Blk v_6 b1 [.int .i64 0, .int .i64 (Q * V1)]) := by rw [hw2]; exact F1.out.put [.int .i64 0, .int .i64 (Q * V1)] rfl
      have F2 : Hid (Blk v_6 b2 [.int .i64 0, .int .i64 V1]) := by rw [hw2]; exact Blk.putB_other (by omega) _ 0 F2.out
      have FB : Hid (Below w.heap.size w v_6) := by rw [hw2]; exact below_putB FB.out (by omega) _ 0
      clear hw2
      refine hK.out _ _ (by (try dsimp only); first | exact ⟨F0.out, F2.out⟩ | go_keep) (fun hHeld => ?_)
      clear hK K
      try simp only [Act.put, List.getElem_toArray, List.getElem_cons_succ, List.getElem_cons_zero, List.setIfInBounds_toArray, List.set_cons_zero, List.set_cons_succ]
      refine wpAnyH_done (by kernel_rfl) ?_ _
      go_wp2_with fail
      exact bodyPost_ret (v := .agg #[.int .i64 0, .int .i64 (Q * V1)]) (F1.out.res _ Try.results20 Try.underlying25 (by kernel_rfl) rfl) rfl ⟨ret_twoF HZ.out.1 HZ.out.2, FB.out⟩
set_option maxRecDepth 20000 in
set_option maxHeartbeats 16000000 in
theorem implUpPeak_any (h : Hs) (t : Int) (w : World) :
    Calls Try.prog 21 #[.agg #[.int .i64 h.fl, .int .i64 h.gp, .int .i64 h.ln, .int .i64 h.rf, .int .i64 h.sp, .int .i64 h.pu, .int .i64 h.br, .int .i64 h.dr, .int .i64 h.lv, .int .i64 h.dO, .int .i64 h.ld, .int .i64 h.qu], .int .i64 t] w (isAns w (Hs.hdK h 1000000 t) (Hs.hdV h 1000000 (fun T => (t + h.ld - 1) / h.ld * T) t)) := by
  obtain ⟨K, hK⟩ : ∃ K, Hs.hdK h 1000000 t = K := ⟨_, rfl⟩
  obtain ⟨V, hV⟩ : ∃ V, Hs.hdV h 1000000 (fun T => (t + h.ld - 1) / h.ld * T) t = V := ⟨_, rfl⟩
  rw [hK, hV]
  have HK : Hid (Hs.hdK h 1000000 t = K) := hK
  have HV : Hid (Hs.hdV h 1000000 (fun T => (t + h.ld - 1) / h.ld * T) t = V) := hV
  obtain ⟨ka, hka⟩ : ∃ ka, h.fault = ka := ⟨_, rfl⟩
  have HA : Hid (h.fault = ka) := hka
  clear hK hV hka
  obtain ⟨b0, hb0⟩ : ∃ b0, b0 = w.heap.size := ⟨_, rfl⟩
  obtain ⟨b1, hb1⟩ : ∃ b1, b1 = b0 + 1 := ⟨_, rfl⟩
  obtain ⟨W0, hW0⟩ : ∃ W0, W0 = (w.alloc (.cells #[.int .i64 h.fl, .int .i64 h.gp, .int .i64 h.ln, .int .i64 h.rf, .int .i64 h.sp, .int .i64 h.pu, .int .i64 h.br, .int .i64 h.dr, .int .i64 h.lv, .int .i64 h.dO, .int .i64 h.ld, .int .i64 h.qu] 27)).alloc (.cells #[.int .i64 0, .int .i64 0] 25) := ⟨_, rfl⟩
  have F0 : Hid (Blk W0 b0 [.int .i64 h.fl, .int .i64 h.gp, .int .i64 h.ln, .int .i64 h.rf, .int .i64 h.sp, .int .i64 h.pu, .int .i64 h.br, .int .i64 h.dr, .int .i64 h.lv, .int .i64 h.dO, .int .i64 h.ld, .int .i64 h.qu]) := by rw [hW0]; exact ((Blk.at_ _ #[.int .i64 h.fl, .int .i64 h.gp, .int .i64 h.ln, .int .i64 h.rf, .int .i64 h.sp, .int .i64 h.pu, .int .i64 h.br, .int .i64 h.dr, .int .i64 h.lv, .int .i64 h.dO, .int .i64 h.ld, .int .i64 h.qu] _ _ hb0).alloc _)
  have F1 : Hid (Blk W0 b1 [.int .i64 0, .int .i64 0]) := by rw [hW0]; exact (Blk.at_ _ #[.int .i64 0, .int .i64 0] _ _ (by simp; omega))
  have FB : Hid (Below w.heap.size w W0) := by rw [hW0]; exact (((Below.refl _ _).alloc (Nat.le_refl _) _).alloc (by simp) _)
  have leb0 : w.heap.size ≤ b0 := by omega
  have leb1 : w.heap.size ≤ b1 := by omega
  have l01 : b0 < b1 := by omega
  go_enter Try.func21, Try.ntmps21
  go_upto_region 1 with fail
  rw [← hb0, ← hb1, ← hW0]
  clear hb0 hb1 hW0
  go_upto_region 2 with (first | (refine load_blk 27 _ Try.underlying27 (by kernel_rfl) F0.out rfl rfl rfl ?_) | (go_at_call 25; refine (implFault_any h _).mono ?_; rw [HA.out]; rintro e w1 ⟨rfl, hb⟩; have F0 : Hid (Blk w1 b0 [.int .i64 h.fl, .int .i64 h.gp, .int .i64 h.ln, .int .i64 h.rf, .int .i64 h.sp, .int .i64 h.pu, .int .i64 h.br, .int .i64 h.dr, .int .i64 h.lv, .int .i64 h.dO, .int .i64 h.ld, .int .i64 h.qu]) := F0.out.below hb F0.out.lt; have F1 : Hid (Blk w1 b1 [.int .i64 0, .int .i64 0]) := F1.out.below hb F1.out.lt; have FB : Hid (Below w.heap.size w w1) := FB.out.trans (hb.mono FB.out.size); clear hb))
  have c00 := F0.out.c 0 _ rfl
  by_cases hz : ka = 0
  case neg =>
    have hn : (ka != 0) = true := by simpa using hz
    have HZ : Hid (ka = K ∧ 0 = V) := ⟨by rw [← HK.out]; unfold Hs.hdK; rw [HA.out, if_neg hz], by rw [← HV.out]; unfold Hs.hdV; rw [HA.out, if_neg hz]⟩
    go_wp2_with (refine store_blk [.int .i64 ka, .int .i64 0] 25 _ _ (by kernel_rfl) (by kernel_rfl) (by kernel_rfl) F1.out rfl rfl rfl rfl ?_)
    exact bodyPost_ret (v := .agg #[.int .i64 ka, .int .i64 0]) ((F1.out.row [.int .i64 ka, .int .i64 0]).res _ Try.results21 Try.underlying25 (by kernel_rfl) rfl) rfl ⟨ret_twoF HZ.out.1 HZ.out.2, below_row FB.out leb1 _⟩
  case pos =>
  subst hz
  have o : h.Ok := Hs.ok_of (Hs.fault_zero HA.out).1
  have f1 := o.fl1
  have f2 := o.fl2
  have ld1 := o.ld1
  have ld2 := o.ld2
  cases hin : inB t 0 1000000 with
  | false =>
    have HZ : Hid (3 = K ∧ 0 = V) := ⟨by rw [← HK.out]; unfold Hs.hdK; rw [HA.out, if_pos rfl, if_neg (by simp [hin])], by rw [← HV.out]; unfold Hs.hdV; rw [HA.out, if_pos rfl, if_neg (by simp [hin])]⟩
    go_wp2_with (first | (go_at_call 35; refine (isWithin_any t 0 1000000 _).mono ?_; rw [hin]; rintro e w' ⟨rfl, hw⟩; obtain rfl := hw.symm; clear hw) | (refine store_blk [.int .i64 3, .int .i64 0] 25 _ _ (by kernel_rfl) (by kernel_rfl) (by kernel_rfl) F1.out rfl rfl rfl rfl ?_))
    exact bodyPost_ret (v := .agg #[.int .i64 3, .int .i64 0]) ((F1.out.row [.int .i64 3, .int .i64 0]).res _ Try.results21 Try.underlying25 (by kernel_rfl) rfl) rfl ⟨ret_twoF HZ.out.1 HZ.out.2, below_row FB.out leb1 _⟩
  | true =>
    have bt := inB_iff.1 hin
    have HKA : Hid (Hs.trpK h (Hs.rtL h) = K) := by show _ = K; rw [← HK.out]; unfold Hs.hdK; rw [HA.out, if_pos rfl, if_pos hin]
    have HVA : Hid ((if Hs.trpB h (Hs.rtL h) = true then (fun T => (t + h.ld - 1) / h.ld * T) (Hs.trpT h (Hs.rtL h)) else 0) = V) := by show _ = V; rw [← HV.out]; unfold Hs.hdV; rw [HA.out, if_pos rfl, if_pos hin]
    obtain ⟨K1, hK1⟩ : ∃ K1, Hs.trpK h (Hs.rtL h) = K1 := ⟨_, rfl⟩
    obtain ⟨V1, hV1⟩ : ∃ V1, Hs.trpV h (Hs.rtL h) = V1 := ⟨_, rfl⟩
    have bT := rt_bd o
    obtain ⟨T, hT⟩ : ∃ T, Hs.trpT h (Hs.rtL h) = T := ⟨_, rfl⟩
    have HT1 : Hid (Hs.trpB h (Hs.rtL h) = true → K1 = 0 ∧ V1 = T ∧ 0 = K ∧ (t + h.ld - 1) / h.ld * T = V) := fun z => by
      have y := trp_yes z
      rw [hK1, hV1, hT] at y
      refine ⟨y.1, y.2.1, by rw [← HKA.out, hK1, y.1], ?_⟩
      rw [← HVA.out, if_pos z, hT]
    have HT2 : Hid (Hs.trpB h (Hs.rtL h) = false → K1 = 2 ∧ V1 = 0 ∧ 2 = K ∧ 0 = V) := fun z => by
      have y := trp_no z
      rw [hK1, hV1] at y
      refine ⟨y.1, y.2.1, by rw [← HKA.out, hK1, y.1], ?_⟩
      rw [← HVA.out, z]; rfl
    rw [hT] at bT
    have CT : ∀ W, Calls Try.prog 36 #[.agg #[.int .i64 h.fl, .int .i64 h.gp, .int .i64 h.ln, .int .i64 h.rf, .int .i64 h.sp, .int .i64 h.pu, .int .i64 h.br, .int .i64 h.dr, .int .i64 h.lv, .int .i64 h.dO, .int .i64 h.ld, .int .i64 h.qu]] W (isAns W K1 V1) := fun W => by have z := roundTrip_any h HA.out W; rw [hK1, hV1] at z; exact z
    have bq := up_le bt.1 bt.2 ld1 ld2
    have CU : ∀ W, Calls Try.prog 38 #[.int .i64 t, .int .i64 h.ld] W fun e w' => e = .returned (.int .i64 ((t + h.ld - 1) / h.ld)) ∧ w' = W := fun W => quotientUp_any _ _ (by omega) (by omega) (by omega) (by omega) W
    obtain ⟨Q, hQ⟩ : ∃ Q, (t + h.ld - 1) / h.ld = Q := ⟨_, rfl⟩
    rw [hQ] at bq CU HT1
    have bm := mul_bd (x := Q) (X := 1000020) (y := T) (Y := 100000) (by omega) (by omega) (by omega) (by omega)
    have em : IntKind.i64.wrap (Q * T) = Q * T := IntWalk.i64_in _ (by omega)
    clear hQ bm
    clear HK HV HKA HVA hK1 hV1 hT o
    go_upto_region 7 with (first | (refine load_blk 27 _ Try.underlying27 (by kernel_rfl) F0.out rfl rfl rfl ?_) | (go_at_call 35; refine (isWithin_any t 0 1000000 _).mono ?_; rw [hin]; rintro e w' ⟨rfl, hw⟩; obtain rfl := hw.symm; clear hw) | (go_at_call 36; refine (CT _).mono ?_; rintro e w4 ⟨rfl, hb⟩; have F0 : Hid (Blk w4 b0 [.int .i64 h.fl, .int .i64 h.gp, .int .i64 h.ln, .int .i64 h.rf, .int .i64 h.sp, .int .i64 h.pu, .int .i64 h.br, .int .i64 h.dr, .int .i64 h.lv, .int .i64 h.dO, .int .i64 h.ld, .int .i64 h.qu]) := F0.out.below hb F0.out.lt; have F1 : Hid (Blk w4 b1 [.int .i64 0, .int .i64 0]) := F1.out.below hb F1.out.lt; have FB : Hid (Below w.heap.size w w4) := FB.out.trans (hb.mono FB.out.size); clear hb) | (refine store_new [.int .i64 K1, .int .i64 V1] 25 _ _ (by kernel_rfl) (by kernel_rfl) (by kernel_rfl) rfl rfl rfl rfl ?_))
    have FB0 := FB
    obtain ⟨b2, hbb⟩ : ∃ b2, b2 = w4.heap.size := ⟨_, rfl⟩
    obtain ⟨w5, hw2⟩ : ∃ w5, w5 = w4.alloc (.cells #[.int .i64 K1, .int .i64 V1] 25) := ⟨_, rfl⟩
    have nb2b0 : b0 < b2 := by rw [hbb]; exact F0.out.lt
    have nb2b1 : b1 < b2 := by rw [hbb]; exact F1.out.lt
    have F0 : Hid (Blk w5 b0 [.int .i64 h.fl, .int .i64 h.gp, .int .i64 h.ln, .int .i64 h.rf, .int .i64 h.sp, .int .i64 h.pu, .int .i64 h.br, .int .i64 h.dr, .int .i64 h.lv, .int .i64 h.dO, .int .i64 h.ld, .int .i64 h.qu]) := by rw [hw2]; exact F0.out.alloc _
    have F1 : Hid (Blk w5 b1 [.int .i64 0, .int .i64 0]) := by rw [hw2]; exact F1.out.alloc _
    have F2 : Hid (Blk w5 b2 [.int .i64 K1, .int .i64 V1]) := by rw [hw2]; exact Blk.at_ w4 #[.int .i64 K1, .int .i64 V1] _ _ hbb
    have FB : Hid (Below w.heap.size w w5) := by rw [hw2]; exact FB.out.alloc FB.out.size _
    have leb2 : w.heap.size ≤ b2 := by rw [hbb]; exact FB0.out.size
    rw [← hw2, ← hbb]
    clear hbb hw2 FB0
    clear CT
    cases hB : Hs.trpB h (Hs.rtL h) with
    | false =>
      obtain ⟨rfl, rfl, z1, z2⟩ := HT2.out hB
      have HZ : Hid (2 = K ∧ 0 = V) := ⟨z1, z2⟩
      have x0 := F2.out.c 0 _ rfl
      clear HT1 HT2 hB z1 z2
      go_wp2_with (first | (refine load_blk 25 _ Try.underlying25 (by kernel_rfl) F2.out rfl rfl rfl ?_) | (refine store_blk [.int .i64 2, .int .i64 0] 25 _ _ (by kernel_rfl) (by kernel_rfl) (by kernel_rfl) F1.out rfl rfl rfl rfl ?_))
      exact bodyPost_ret (v := .agg #[.int .i64 2, .int .i64 0]) ((F1.out.row [.int .i64 2, .int .i64 0]).res _ Try.results21 Try.underlying25 (by kernel_rfl) rfl) rfl ⟨ret_twoF HZ.out.1 HZ.out.2, below_row FB.out leb1 _⟩
    | true =>
      obtain ⟨rfl, e1, z1, z2⟩ := HT1.out hB
      subst e1
      have HZ : Hid (0 = K ∧ Q * V1 = V) := ⟨z1, z2⟩
      have x0 := F2.out.c 0 _ rfl
      clear HT1 HT2 hB z1 z2
      go_upto_region 9 with fail
      clear x0 c00
      have F0 : Hid (Blk w5.drew b0 [.int .i64 h.fl, .int .i64 h.gp, .int .i64 h.ln, .int .i64 h.rf, .int .i64 h.sp, .int .i64 h.pu, .int .i64 h.br, .int .i64 h.dr, .int .i64 h.lv, .int .i64 h.dO, .int .i64 h.ld, .int .i64 h.qu]) := F0.out.below (Below.refl _ _).drew F0.out.lt
      have F1 : Hid (Blk w5.drew b1 [.int .i64 0, .int .i64 0]) := F1.out.below (Below.refl _ _).drew F1.out.lt
      have F2 : Hid (Blk w5.drew b2 [.int .i64 0, .int .i64 V1]) := F2.out.below (Below.refl _ _).drew F2.out.lt
      have FB : Hid (Below w.heap.size w w5.drew) := FB.out.drew
      refine wp_region_held_drew (S := (fun w'' => Blk w'' b0 ([.int .i64 h.fl, .int .i64 h.gp, .int .i64 h.ln, .int .i64 h.rf, .int .i64 h.sp, .int .i64 h.pu, .int .i64 h.br, .int .i64 h.dr, .int .i64 h.lv, .int .i64 h.dO, .int .i64 h.ld, .int .i64 h.qu]) ∧ Blk w'' b2 ([.int .i64 0, .int .i64 V1]))) (by kernel_rfl) (by (try dsimp only); first | exact ⟨F0.out, F2.out⟩ | go_keep) (fun hHeld => ?_)
      obtain ⟨v_7, hw1⟩ : ∃ v_7, v_7 = w5.drew := ⟨_, rfl⟩
      have F0 : Hid (Blk v_7 b0 [.int .i64 h.fl, .int .i64 h.gp, .int .i64 h.ln, .int .i64 h.rf, .int .i64 h.sp, .int .i64 h.pu, .int .i64 h.br, .int .i64 h.dr, .int .i64 h.lv, .int .i64 h.dO, .int .i64 h.ld, .int .i64 h.qu]) := by rw [hw1]; exact F0.out
      have F1 : Hid (Blk v_7 b1 [.int .i64 0, .int .i64 0]) := by rw [hw1]; exact F1.out
      have F2 : Hid (Blk v_7 b2 [.int .i64 0, .int .i64 V1]) := by rw [hw1]; exact F2.out
      have FB : Hid (Below w.heap.size w v_7) := by rw [hw1]; exact FB.out
      rw [← hw1] at hHeld ⊢
      clear hw1
      refine tkz 0 rfl ?_
      refine tkz 1 rfl ?_
      refine tkz 2 rfl ?_ (hy := Or.inl ⟨by kernel_rfl, by (intro wx hSw; have hq0_10 := hSw.1.c 10 _ rfl; (try dsimp only at hSw); go_simp <;> with_reducible rfl)⟩)
      refine tkz 4 rfl ?_
      refine tkz 5 rfl ?_ (hy := Or.inl ⟨by kernel_rfl, by (intro wx hSw; have hq1_1 := hSw.2.c 1 _ rfl; (try dsimp only at hSw); go_simp <;> with_reducible rfl)⟩)
      refine wpAnyH_ready (rs := [3]) (by kernel_rfl) (by simp) ?_
      refine (AllReadyH.cons rfl (fun K hK => ?_) AllReadyH.nil)
      go_simp
      refine (CU _).mono ?_
      rintro e w_ ⟨rfl, hw⟩
      obtain rfl := hw.symm
      clear hw
      try dsimp only
      refine hK.out _ _ (by (try dsimp only); first | exact ⟨F0.out, F2.out⟩ | go_keep) (fun hHeld => ?_)
      clear hK K
      try simp only [Act.put, List.getElem_toArray, List.getElem_cons_succ, List.getElem_cons_zero, List.setIfInBounds_toArray, List.set_cons_zero, List.set_cons_succ]
      refine tkz 6 rfl ?_
      refine tkz 7 rfl ?_
      refine wpAnyH_ready (rs := [8]) (by kernel_rfl) (by simp) ?_
      refine (AllReadyH.cons rfl (fun K hK => ?_) AllReadyH.nil)
      have k0 := F1.out.c 0 _ rfl
      have k1 := F1.out.c 1 _ rfl
      have kf0 := F1.out.f 0 (Nat.le_of_ble_eq_true rfl)
      have kf1 := F1.out.f 1 (Nat.le_of_ble_eq_true rfl)
      go_simp
      obtain ⟨v_8, hw2⟩ : ∃ v_8, v_8 = putB v_7 b1 0 [.int .i64 0, .int .i64 (Q * V1)] := ⟨_, rfl⟩
      change K _ (putB v_7 b1 0 [.int .i64 0, .int .i64 (Q * V1)])
      rw [← hw2]
      clear k0 kf0 k1 kf1
      have F0 : Hid (Blk v_8 b0 [.int .i64 h.fl, .int .i64 h.gp, .int .i64 h.ln, .int .i64 h.rf, .int .i64 h.sp, .int .i64 h.pu, .int .i64 h.br, .int .i64 h.dr, .int .i64 h.lv, .int .i64 h.dO, .int .i64 h.ld, .int .i64 h.qu]) := by rw [hw2]; exact Blk.putB_other (by omega) _ 0 F0.out
      have F1 : Hid (Blk v_8 b1 [.int .i64 0, .int .i64 (Q * V1)]) := by rw [hw2]; exact F1.out.put [.int .i64 0, .int .i64 (Q * V1)] rfl
      have F2 : Hid (Blk v_8 b2 [.int .i64 0, .int .i64 V1]) := by rw [hw2]; exact Blk.putB_other (by omega) _ 0 F2.out
      have FB : Hid (Below w.heap.size w v_8) := by rw [hw2]; exact below_putB FB.out (by omega) _ 0
      clear hw2
      refine hK.out _ _ (by (try dsimp only); first | exact ⟨F0.out, F2.out⟩ | go_keep) (fun hHeld => ?_)
      clear hK K
      try simp only [Act.put, List.getElem_toArray, List.getElem_cons_succ, List.getElem_cons_zero, List.setIfInBounds_toArray, List.set_cons_zero, List.set_cons_succ]
      refine wpAnyH_done (by kernel_rfl) ?_ _
      go_wp2_with fail
      exact bodyPost_ret (v := .agg #[.int .i64 0, .int .i64 (Q * V1)]) (F1.out.res _ Try.results21 Try.underlying25 (by kernel_rfl) rfl) rfl ⟨ret_twoF HZ.out.1 HZ.out.2, FB.out⟩
end Go.Proofs.Ythfnphbgjfcdaaa
