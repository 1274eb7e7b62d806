/-
  The program's lines, words, digits; the kind of a word.
-/
import Derived.Test.YtoacnglcneliiaaGreatDoorPar
import Derived.Test.YtoacnglcneliiaaGreatDoorStrR
import Derived.Test.YtoacnglcneliiaaGreatDoorFmtP
import Derived.Deep.RegionHeld3
import Derived.BigGuardPart
namespace Go.Proofs.YtoacnglcneliiaaGreatDoor
open Go.RowKit Go.Shelf Pl
set_option linter.unusedSimpArgs false
set_option linter.unusedVariables false

/-- What the program's variables hold: its own error, the library's two, a number. -/
structure Vr (w : World) (eu : Value) : Prop where
  gu : w.cell? ⟨1, 0, none⟩ = some eu
  iu : ∃ t p, eu = Value.iface t p
  es : ∃ ev, w.cell? ⟨Par.pu_ren.g 0, 0, none⟩ = some ev ∧ (ev = .nilIface ∨ ∃ te pe, ev = .iface te pe)
  er : ∃ ev, w.cell? ⟨Par.pu_ren.g 1, 0, none⟩ = some ev ∧ (ev = .nilIface ∨ ∃ te pe, ev = .iface te pe)
  ml : ∃ m, w.cell? ⟨Par.split_ren.g 1, 0, none⟩ = some (.int .i64 m)
theorem Vr.below {W w : World} {eu : Value} {B : Nat} (h : Vr W eu) (hb : Below B W w) (hB : W.heap.size ≤ B) : Vr w eu := by
  have key : ∀ {b : Nat} {v : Value}, W.cell? ⟨b, 0, none⟩ = some v → w.cell? ⟨b, 0, none⟩ = some v := fun {b v} hc =>
    (hb.cell (p := ⟨b, 0, none⟩) (Nat.lt_of_lt_of_le (World.block_lt_of_cell? W _ hc) hB)).trans hc
  obtain ⟨e1, h1, k1⟩ := h.es
  obtain ⟨e2, h2, k2⟩ := h.er
  obtain ⟨m, h3⟩ := h.ml
  exact ⟨key h.gu, h.iu, ⟨e1, key h1, k1⟩, ⟨e2, key h2, k2⟩, ⟨m, key h3⟩⟩
theorem pu_all (s : ByteArray) (hs : s.size ≤ 1048576) (eu : Value) (W : World) (hV : Vr W eu) :
    Calls Tryz.prog 86 #[.string s, .int .i64 10, .int .i64 64] W fun e w' => ∃ (x : Int) (er : Value), e = .returned (.tuple #[.int .u64 x, er]) ∧ Below W.heap.size W w' ∧ (er = .nilIface ∨ ∃ t p, er = .iface t p) ∧ (s.size ≤ 9 → (∀ u, numS s = some u → x = u ∧ er = .nilIface) ∧ (numS s = none → ∃ t p, er = .iface t p)) := by
  cases hp : Lib.parseUintB 64 s.data.toList with
  | ok u =>
    refine (Any.strconv_ParseUint_10_at64_ok Par.pu s (by omega) u hp W).mono ?_
    rintro e w' ⟨rfl, hw⟩
    refine ⟨u, .nilIface, rfl, ?_, Or.inl rfl, fun h9 => ?_⟩
    · rcases hw with rfl | rfl
      · exact Below.refl _ _
      · exact Lib.bytesWorld_below _ _ _
    · have q := parse_num s h9
      rw [hp] at q
      cases hn : numS s with
      | none => rw [hn] at q; cases q
      | some v => rw [hn] at q; injection q with q; subst q; exact ⟨fun u' hu => by injection hu with hu; subst hu; exact ⟨rfl, rfl⟩, fun hu => by cases hu⟩
  | «syntax» =>
    obtain ⟨ev, hv, hev⟩ := hV.es
    refine (Any.strconv_ParseUint_10_at64_syntax Par.pu s (by omega) hp ev W hv hev).mono ?_
    rintro e w' ⟨N, rfl, _, _, hb⟩
    refine ⟨0, _, rfl, hb, Or.inr ⟨_, _, rfl⟩, fun h9 => ⟨fun u hu => ?_, fun _ => ⟨_, _, rfl⟩⟩⟩
    have q := parse_num s h9
    rw [hp, hu] at q
    cases q
  | range =>
    obtain ⟨ev, hv, hev⟩ := hV.er
    refine (Any.strconv_ParseUint_10_at64_range Par.pu s (by omega) hp ev W hv hev).mono ?_
    rintro e w' ⟨N, rfl, _, _, hb⟩
    refine ⟨18446744073709551615, _, rfl, hb, Or.inr ⟨_, _, rfl⟩, fun h9 => ⟨fun u hu => ?_, fun _ => ⟨_, _, rfl⟩⟩⟩
    have q := parse_num s h9
    rw [hp, hu] at q
    cases q
/-- What digitsIn tells besides the number. -/
def erW (eu : Value) : Option Nat → Value
  | some _ => .nilIface
  | none => eu
set_option maxRecDepth 20000 in
set_option maxHeartbeats 16000000 in
theorem digitsIn_any (s : ByteArray) (hs : s.size ≤ 1048576) (eu : Value) (w : World) (hV : Vr w eu) :
    Calls Tryz.prog 66 #[.string s] w fun e w' => e = .returned (.tuple #[.int .i64 (((numS s).getD 0 : Nat) : Int), erW eu (numS s)]) ∧ Below w.heap.size w w' := by
  have HV : Hid (Vr w eu) := hV
  have CP := fun W h => pu_all s hs eu W h
  obtain ⟨z, hz⟩ : ∃ z, s.size = z := ⟨_, rfl⟩
  rw [hz] at CP
  have HZ : Hid (s.size = z) := hz
  clear hV
  go_enter Tryz.func66, Tryz.ntmps66
  go_upto_region 2 with (go_at_call 86; refine (CP _ HV.out).mono ?_; rintro e w1 ⟨x, er, rfl, hb, he, h9⟩)
  have FB : Hid (Below w.heap.size w w1) := hb
  have gu := (HV.out.below hb (Nat.le_refl _)).gu
  have H9 : Hid (z ≤ 9 → (∀ u, numS s = some u → x = u ∧ er = .nilIface) ∧ (numS s = none → ∃ t p, er = .iface t p)) := h9
  clear hb h9 CP
  by_cases hl : 9 < z
  · have hn : numS s = none := by unfold numS; rw [hz]; exact if_pos (Or.inr hl)
    have HN : Hid (numS s = none) := hn
    have hli : (9 : Int) < z := by omega
    clear hn he
    go_upto_region 3 with fail
    go_quiet (fail)
    all_goals (try go_wp2_with fail)
    all_goals (go_ret2; rw [HN.out]; exact ⟨rfl, FB.out.trans ((below_drewNg _ _).mono FB.out.size)⟩)
  · have hli : ¬ (9 : Int) < z := by omega
    obtain ⟨hsm, hno⟩ := H9.out (by omega)
    cases hn : numS s with
    | some u =>
      obtain ⟨rfl, rfl⟩ := hsm u hn
      have hu := numS_lt s u hn
      have HN : Hid (numS s = some u) := hn
      have ew : IntKind.i64.wrap (u : Int) = (u : Int) := IntWalk.i64_in _ (by omega)
      clear hn hsm hno he
      go_wp2_with fail
      go_ret2
      rw [HN.out]
      exact ⟨rfl, FB.out⟩
    | none =>
      obtain ⟨t, p, rfl⟩ := hno hn
      have HN : Hid (numS s = none) := hn
      clear hn hsm hno he
      go_upto_region 3 with fail
      go_quiet (fail)
      all_goals (try go_wp2_with fail)
      all_goals (go_ret2; rw [HN.out]; exact ⟨rfl, FB.out.trans ((below_drewNg _ _).mono FB.out.size)⟩)
set_option maxRecDepth 20000 in
set_option maxHeartbeats 16000000 in
theorem isSp_pays (w : World) : PredGrows Tryz.prog 68 #[] isSp w := by
  intro W x hx hb
  show Calls Tryz.prog 68 #[.int .i32 (x : Int)] W _
  have hq : ((x : Int) == 32) = isSp x := by
    unfold isSp
    by_cases h : x = 32
    · subst h; rfl
    · have : ¬ (x : Int) = 32 := by omega
      rw [beq_eq_false_iff_ne.2 this, beq_eq_false_iff_ne.2 h]
  go_enter Tryz.func68, Tryz.ntmps68
  go_wp2_with fail
  go_ret
  exact ⟨by rw [← hq]; simp, Below.refl _ _⟩
set_option maxRecDepth 20000 in
set_option maxHeartbeats 16000000 in
theorem wordsIn_any (s : ByteArray) (hs : s.size ≤ 1048576) (w : World) :
    Calls Tryz.prog 38 #[.string s] w fun e w' => ∃ A, e = .returned (.slice (some ⟨A, 0, none⟩) (wordsS s).length (wordsS s).length) ∧ OwS w' w.heap.size (.slice (some ⟨A, 0, none⟩) (wordsS s).length (wordsS s).length) (wordsS s) ∧ Below w.heap.size w w' := by
  have cF : Calls Tryz.prog 67 #[.string s, .func (.func 68) #[] #[]] w _ := Any.strings_FieldsFunc_grows Par.fields 68 #[] (enters_of Tryz.func68 (by kernel_rfl) rfl) isSp s w (by omega) (isSp_pays w) (by kernel_rfl) (by kernel_rfl)
  rw [fields_words] at cF
  obtain ⟨FS, hFS⟩ : ∃ FS, wordsS s = FS := ⟨_, rfl⟩
  rw [hFS] at cF ⊢
  go_enter Tryz.func38, Tryz.ntmps38
  go_wp2_with (go_at_call 67; refine cF.mono ?_; rintro e w' ⟨A, rfl, hA, hown, hb⟩)
  go_ret
  exact ⟨A, rfl, hown, hb⟩
/-- The kind that a word names: 0 for none. -/
def kdW (s : ByteArray) : Int := if s = evW 1 then 1 else if s = evW 2 then 2 else if s = evW 3 then 3 else if s = evW 4 then 4 else if s = evW 5 then 5 else 0
theorem toList_eq_iff (a b : ByteArray) : (a.toList == b.toList) = decide (a = b) := by
  rw [ByteArray.toList_eq, ByteArray.toList_eq]
  by_cases h : a = b
  · subst h; simp
  · have : ¬ a.data.toList = b.data.toList := by
      intro e; apply h
      have hd : a.data = b.data := by simpa using congrArg List.toArray e
      cases a; cases b; simp_all
    rw [decide_eq_false h]
    simpa using this
theorem eventWord_q (k : Int) (h1 : 1 ≤ k) (h5 : k ≤ 5) (w : World) : Calls Tryz.prog 14 #[.int .i64 k] w fun e w' => e = .returned (.string (evW k)) ∧ w' = w := by
  rcases (show k = 1 ∨ k = 2 ∨ k = 3 ∨ k = 4 ∨ k = 5 by omega) with rfl | rfl | rfl | rfl | rfl
  all_goals
    go_enter Tryz.func14, Tryz.ntmps14
    go_wp2_with fail
    go_ret
    exact ⟨rfl, rfl⟩
theorem kdW_hit (s : ByteArray) (k : Nat) (h1 : 1 ≤ k) (h5 : k ≤ 5) (hb : ∀ j : Nat, 1 ≤ j → j < k → s ≠ evW j) (h : s = evW k) : kdW s = k := by
  unfold kdW
  have g := fun (j : Nat) (a : 1 ≤ j) (c : j < k) => hb j a c
  rcases (show k = 1 ∨ k = 2 ∨ k = 3 ∨ k = 4 ∨ k = 5 by omega) with rfl | rfl | rfl | rfl | rfl
  · exact if_pos h
  · exact (if_neg (g 1 (by omega) (by omega))).trans (if_pos h)
  · exact (if_neg (g 1 (by omega) (by omega))).trans ((if_neg (g 2 (by omega) (by omega))).trans (if_pos h))
  · exact (if_neg (g 1 (by omega) (by omega))).trans ((if_neg (g 2 (by omega) (by omega))).trans ((if_neg (g 3 (by omega) (by omega))).trans (if_pos h)))
  · exact (if_neg (g 1 (by omega) (by omega))).trans ((if_neg (g 2 (by omega) (by omega))).trans ((if_neg (g 3 (by omega) (by omega))).trans ((if_neg (g 4 (by omega) (by omega))).trans (if_pos h))))
theorem kdW_miss (s : ByteArray) (hb : ∀ j : Nat, 1 ≤ j → j < 6 → s ≠ evW j) : kdW s = 0 := by
  unfold kdW
  exact (if_neg (hb 1 (by omega) (by omega))).trans ((if_neg (hb 2 (by omega) (by omega))).trans ((if_neg (hb 3 (by omega) (by omega))).trans ((if_neg (hb 4 (by omega) (by omega))).trans (if_neg (hb 5 (by omega) (by omega))))))
set_option maxRecDepth 20000 in
set_option maxHeartbeats 16000000 in
theorem kindOf_any (s : ByteArray) (w : World) : Calls Tryz.prog 64 #[.string s] w fun e w' => e = .returned (.tuple #[.int .i64 (kdW s), .bool (decide (kdW s ≠ 0))]) ∧ w' = w := by
  go_enter Tryz.func64, Tryz.ntmps64
  go_wp2_with fail
  go_loopw [4] (fun kk wr => ∃ k : Nat, kk = .int .i64 (k : Int) ∧ 1 ≤ k ∧ k ≤ 6 ∧ (∀ j : Nat, 1 ≤ j → j < k → s ≠ evW j) ∧ wr = w) (fun kk _ => 7 - (intOf kk).toNat)
  case atStart => exact ⟨1, rfl, by omega, by omega, fun j _ _ => by omega, by first | rfl | trivial⟩
  case round =>
    obtain ⟨k, rfl, h1, h6, hb, rfl⟩ := hrel
    by_cases hk : k ≤ 5
    · have hki : (k : Int) ≤ 5 := by omega
      have CE := eventWord_q (k : Int) (by omega) hki
      have hq := toList_eq_iff (evW k) s
      by_cases he : s = evW k
      · have HK := kdW_hit s k h1 hk hb he
        rw [decide_eq_true he.symm] at hq
        have HKK : Hid (kdW s = k) := HK
        obtain ⟨x, hx⟩ : ∃ x, evW (k : Int) = x := ⟨_, rfl⟩
        rw [hx] at CE hq
        clear HK hx he hb
        go_wp2_with (go_at_call 14; refine (CE _).mono ?_; rintro e w1 ⟨rfl, hw⟩; obtain rfl := hw)
        go_ret2
        rw [HKK.out]
        exact ⟨by simp; omega, rfl⟩
      · have hne : ¬ evW (k : Int) = s := fun e => he e.symm
        rw [decide_eq_false hne] at hq
        have HB : Hid (∀ j : Nat, 1 ≤ j → j < k + 1 → s ≠ evW j) := fun j a b => by
          rcases Nat.lt_or_ge j k with c | c
          · exact hb j a c
          · obtain rfl : j = k := by omega
            exact he
        obtain ⟨x, hx⟩ : ∃ x, evW (k : Int) = x := ⟨_, rfl⟩
        rw [hx] at CE hq
        clear hx he hb hne
        go_wp2_with (go_at_call 14; refine (CE _).mono ?_; rintro e w1 ⟨rfl, hw⟩; obtain rfl := hw)
        go_roundw
        case rel => exact ⟨k + 1, by simp, by omega, by omega, HB.out, by first | rfl | trivial⟩
        case measure => simp [intOf]; omega
    · obtain rfl : k = 6 := by omega
      have HK : Hid (kdW s = 0) := kdW_miss s hb
      clear hb
      go_wp2_with fail
      go_ret2
      rw [HK.out]
      exact ⟨rfl, rfl⟩
end Go.Proofs.YtoacnglcneliiaaGreatDoor
