/-
  The model's TraceFault.
-/
import Derived.Test.YtoacnglcneliiaaGreatDoorEvQ
import Derived.Test.YtoacnglcneliiaaGreatDoorEvA
import Derived.Test.YtoacnglcneliiaaGreatDoorFnd
namespace Go.Proofs.YtoacnglcneliiaaGreatDoor
open Go.RowKit Pl
set_option linter.unusedSimpArgs false
set_option linter.unusedVariables false

theorem find_no {l : List Ev} {i : Nat} {p : Ev} {f : Ev → Bool} (h : l[i]? = some p) (no : (l.take i).find? f = none) (k : f p = false) : (l.take (i + 1)).find? f = none := by
  have hi : i < l.length := (List.getElem?_eq_some_iff.1 h).1
  have q : l[i] = p := (List.getElem?_eq_some_iff.1 h).2
  rw [List.take_succ_eq_append_getElem hi, List.find?_append, no, q]
  simp [k]
theorem find_yes {l : List Ev} {i : Nat} {p : Ev} {f : Ev → Bool} (h : l[i]? = some p) (no : (l.take i).find? f = none) (k : f p = true) : l.find? f = some p := by
  have hi : i < l.length := (List.getElem?_eq_some_iff.1 h).1
  have q : l[i] = p := (List.getElem?_eq_some_iff.1 h).2
  have e : l = l.take i ++ p :: l.drop (i + 1) := by
    rw [← q, ← List.drop_eq_getElem_cons hi, List.take_append_drop]
  rw [e, List.find?_append]
  rw [no]
  simp [k]
set_option maxRecDepth 20000 in
set_option maxHeartbeats 16000000 in
theorem l10Call_any (a : Option Addr) (cap : Nat) (l : List Ev) (id : Int) (hl : l.length ≤ 1048576) (w : World) (hE : EIn w w.heap.size a l) :
    Calls Tryz.prog 48 #[.slice a l.length cap, .int .i64 id] w fun e w' => (∃ c : Ev, e = .returned (.tuple #[.agg #[.int .i64 c.tk, .int .i64 c.kd, .int .i64 c.id, .int .i64 c.fl, .int .i64 c.tw], .bool (callOf l id).isSome]) ∧ ∀ r, callOf l id = some r → c = r) ∧ Below w.heap.size w w' := by
  have HE : Hid (EIn w w.heap.size a l) := hE
  clear hE
  have HR : Hid (Blk (w.alloc (.cells #[.int .i64 0, .int .i64 0, .int .i64 0, .int .i64 0, .int .i64 0] 34)) w.heap.size [.int .i64 0, .int .i64 0, .int .i64 0, .int .i64 0, .int .i64 0]) := Blk.at_ w _ _ _ rfl
  have HB : Hid (Below w.heap.size w (w.alloc (.cells #[.int .i64 0, .int .i64 0, .int .i64 0, .int .i64 0, .int .i64 0] 34))) := (Below.refl _ _).alloc (Nat.le_refl _) _
  go_enter Tryz.func48, Tryz.ntmps48
  go_wp2_with fail
  go_loopw [6] (fun ii wr => ∃ i : Nat, ii = .int .i64 i ∧ i ≤ l.length ∧ (l.take i).find? (fun e => e.id == id && e.kd == 1) = none ∧ Blk wr w.heap.size [.int .i64 0, .int .i64 0, .int .i64 0, .int .i64 0, .int .i64 0] ∧ Below w.heap.size w wr) (fun ii _ => l.length - (intOf ii).toNat)
  case atStart => exact ⟨0, rfl, by omega, by simp, HR.out, HB.out⟩
  case round =>
    obtain ⟨i, rfl, hi, hno, hr, hb⟩ := hrel
    have HN : Hid ((l.take i).find? (fun e => e.id == id && e.kd == 1) = none) := hno
    have FR : Hid (Blk wr w.heap.size [.int .i64 0, .int .i64 0, .int .i64 0, .int .i64 0, .int .i64 0]) := hr
    have FB : Hid (Below w.heap.size w wr) := hb
    clear hno hr hb HR HB
    by_cases hlt : i < l.length
    · obtain ⟨p, hp⟩ : ∃ p, l[i]? = some p := ⟨_, List.getElem?_eq_getElem hlt⟩
      have HG : Hid (l[i]? = some p) := hp
      rcases HE.out with h0 | ⟨b, o, rfl, hbl, h5⟩
      · rw [h0] at hlt; simp at hlt
      obtain ⟨z0, z1, z2, z3, z4⟩ := (h5 i p hp).below FB.out hbl
      clear hp h5
      cases e1 : (p.id == id)
      · have HN : Hid ((l.take (i + 1)).find? (fun e => e.id == id && e.kd == 1) = none) := find_no HG.out HN.out (by simp only [e1, Bool.false_and])
        go_wp2_with fail
        go_roundw
        case rel => exact ⟨i + 1, by simp, by omega, HN.out, FR.out, FB.out⟩
        case measure => simp [intOf]; omega
      · cases e2 : (p.kd == 1)
        · have HN : Hid ((l.take (i + 1)).find? (fun e => e.id == id && e.kd == 1) = none) := find_no HG.out HN.out (by simp only [e2, Bool.and_false])
          go_wp2_with fail
          go_roundw
          case rel => exact ⟨i + 1, by simp, by omega, HN.out, FR.out, FB.out⟩
          case measure => simp [intOf]; omega
        · have HF : Hid (callOf l id = some p) := find_yes HG.out HN.out (by simp only [e1, e2, Bool.and_true])
          clear HN
          go_wp2_with (first | (refine store_blk [.int .i64 p.tk, .int .i64 p.kd, .int .i64 p.id, .int .i64 p.fl, .int .i64 p.tw] 34 _ _ (by kernel_rfl) (by kernel_rfl) (by kernel_rfl) FR.out rfl rfl rfl rfl ?_))
          have G := FR.out.row [.int .i64 p.tk, .int .i64 p.kd, .int .i64 p.id, .int .i64 p.fl, .int .i64 p.tw]
          obtain ⟨Wf, hWf⟩ : ∃ Wf, wr.setRow w.heap.size [.int .i64 p.tk, .int .i64 p.kd, .int .i64 p.id, .int .i64 p.fl, .int .i64 p.tw].toArray = Wf := ⟨_, rfl⟩
          have hB : Below w.heap.size w Wf := hWf ▸ below_row FB.out (Nat.le_refl _) _
          rw [hWf] at G ⊢
          have k0_ := G.c 0 _ rfl
          have k1_ := G.c 1 _ rfl
          have k2_ := G.c 2 _ rfl
          have k3_ := G.c 3 _ rfl
          have k4_ := G.c 4 _ rfl
          refine bodyPost_ret (v := .tuple #[.agg #[.int .i64 p.tk, .int .i64 p.kd, .int .i64 p.id, .int .i64 p.fl, .int .i64 p.tw], .bool true]) (by simp [results, Tryz.results48, go_sem, k0_, k1_, k2_, k3_, k4_]) rfl ⟨⟨p, by rw [HF.out]; rfl, fun r hr => by rw [HF.out] at hr; exact Option.some.inj hr⟩, hB⟩
    · have ei : i = l.length := by omega
      subst ei
      have HF : Hid (callOf l id = none) := by
        have z := HN.out
        rw [List.take_of_length_le (Nat.le_refl _)] at z
        exact z
      clear HN
      go_wp2_with (first | (refine store_blk [.int .i64 0, .int .i64 0, .int .i64 0, .int .i64 0, .int .i64 0] 34 _ _ (by kernel_rfl) (by kernel_rfl) (by kernel_rfl) FR.out rfl rfl rfl rfl ?_))
      have G := FR.out.row [.int .i64 0, .int .i64 0, .int .i64 0, .int .i64 0, .int .i64 0]
      obtain ⟨Wf, hWf⟩ : ∃ Wf, wr.setRow w.heap.size [.int .i64 0, .int .i64 0, .int .i64 0, .int .i64 0, .int .i64 0].toArray = Wf := ⟨_, rfl⟩
      have hB : Below w.heap.size w Wf := hWf ▸ below_row FB.out (Nat.le_refl _) _
      rw [hWf] at G ⊢
      have k0_ := G.c 0 _ rfl
      have k1_ := G.c 1 _ rfl
      have k2_ := G.c 2 _ rfl
      have k3_ := G.c 3 _ rfl
      have k4_ := G.c 4 _ rfl
      refine bodyPost_ret (v := .tuple #[.agg #[.int .i64 0, .int .i64 0, .int .i64 0, .int .i64 0, .int .i64 0], .bool false]) (by simp [results, Tryz.results48, go_sem, k0_, k1_, k2_, k3_, k4_]) rfl ⟨⟨zeroE, by rw [HF.out]; rfl, fun r hr => by rw [HF.out] at hr; cases hr⟩, hB⟩
set_option maxRecDepth 20000 in
set_option maxHeartbeats 16000000 in
theorem l10State_any (a : Option Addr) (cap : Nat) (l : List Ev) (id : Int) (hl : l.length ≤ 1048576) (hk : ∀ x ∈ l, 1 ≤ x.kd ∧ x.kd ≤ 5) (w : World) (hE : EIn w w.heap.size a l) :
    Calls Tryz.prog 49 #[.slice a l.length cap, .int .i64 id] w fun e w' => e = .returned (.int .i64 (stOf l id)) ∧ w' = w := by
  have HE : Hid (EIn w w.heap.size a l) := hE
  have HK : Hid (∀ x ∈ l, 1 ≤ x.kd ∧ x.kd ≤ 5) := hk
  obtain ⟨S, hS⟩ : ∃ S, stOf l id = S := ⟨_, rfl⟩
  have HS : Hid (stOf l id = S) := hS
  rw [hS]
  clear hE hk hS
  go_enter Tryz.func49, Tryz.ntmps49
  go_wp2_with fail
  go_loopw [5, 6] (fun ss ii wr => ∃ i : Nat, ii = .int .i64 i ∧ i ≤ l.length ∧ ss = .int .i64 (stOf (l.take i) id) ∧ wr = w) (fun _ ii _ => l.length - (intOf ii).toNat)
  case atStart => exact ⟨0, rfl, by omega, by simp [stOf], rfl⟩
  case round =>
    obtain ⟨i, rfl, hi, rfl, hw⟩ := hrel
    obtain rfl := hw.symm
    clear hw
    have FB : Hid (Below w.heap.size w w) := Below.refl _ _
    by_cases hlt : i < l.length
    · obtain ⟨p, hp⟩ : ∃ p, l[i]? = some p := ⟨_, List.getElem?_eq_getElem hlt⟩
      have HG : Hid (l[i]? = some p) := hp
      rcases HE.out with h0 | ⟨b, o, rfl, hbl, h5⟩
      · rw [h0] at hlt; simp at hlt
      obtain ⟨z0, z1, z2, z3, z4⟩ := (h5 i p hp).below FB.out hbl
      clear hp h5
      have hkd := HK.out p (List.mem_of_getElem? HG.out)
      have ew : IntKind.i64.wrap (p.kd - 1) = p.kd - 1 := IntWalk.i64_in _ (by omega)
      have HT := stOf_snoc HG.out id
      cases e1 : (p.id == id)
      · have HT : Hid (stOf (l.take (i + 1)) id = stOf (l.take i) id) := by show _ = _; rw [HT, if_neg (by rw [e1]; simp)]
        go_wp2_with fail
        go_roundw
        case rel => exact ⟨i + 1, by simp, by omega, by rw [HT.out], by first | rfl | trivial⟩
        case measure => simp [intOf]; omega
      · cases e2 : (p.kd != 1)
        · have HT : Hid (stOf (l.take (i + 1)) id = stOf (l.take i) id) := by show _ = _; rw [HT, if_neg (by rw [e1, e2]; simp)]
          go_wp2_with fail
          go_roundw
          case rel => exact ⟨i + 1, by simp, by omega, by rw [HT.out], by first | rfl | trivial⟩
          case measure => simp [intOf]; omega
        · have HT : Hid (stOf (l.take (i + 1)) id = p.kd - 1) := by show _ = _; rw [HT, if_pos (by rw [e1, e2]; rfl)]
          go_wp2_with fail
          go_roundw
          case rel => exact ⟨i + 1, by simp, by omega, by rw [HT.out], by first | rfl | trivial⟩
          case measure => simp [intOf]; omega
    · have ei : i = l.length := by omega
      subst ei
      have HZ : Hid (stOf (l.take l.length) id = S) := by show _ = _; rw [List.take_of_length_le (Nat.le_refl _)]; exact HS.out
      go_wp2_with fail
      go_ret
      exact ⟨ret_int HZ.out, rfl⟩
set_option maxRecDepth 20000 in
set_option maxHeartbeats 32000000 in
theorem l10Next_any (a : Option Addr) (cap : Nat) (l : List Ev) (e : Ev) (hl : l.length ≤ 1048576) (hk : ∀ x ∈ l, 1 ≤ x.kd ∧ x.kd ≤ 5) (w : World) (hE : EIn w w.heap.size a l) :
    Calls Tryz.prog 31 #[.slice a l.length cap, .agg #[.int .i64 e.tk, .int .i64 e.kd, .int .i64 e.id, .int .i64 e.fl, .int .i64 e.tw]] w fun r w' => r = .returned (.int .i64 (nextC (callOf l e.id) (stOf l e.id) e)) ∧ Below w.heap.size w w' := by
  have HE : Hid (EIn w w.heap.size a l) := hE
  have HK : Hid (∀ x ∈ l, 1 ≤ x.kd ∧ x.kd ≤ 5) := hk
  obtain ⟨S, hS⟩ : ∃ S, stOf l e.id = S := ⟨_, rfl⟩
  obtain ⟨K, hK⟩ : ∃ K, nextC (callOf l e.id) (stOf l e.id) e = K := ⟨_, rfl⟩
  rw [hK]
  rw [hS] at hK
  clear hE hk
  have F0 : Hid (Blk (w.alloc (.cells #[.int .i64 e.tk, .int .i64 e.kd, .int .i64 e.id, .int .i64 e.fl, .int .i64 e.tw] 34)) w.heap.size [.int .i64 e.tk, .int .i64 e.kd, .int .i64 e.id, .int .i64 e.fl, .int .i64 e.tw]) := Blk.at_ w _ _ _ rfl
  have FB : Hid (Below w.heap.size w (w.alloc (.cells #[.int .i64 e.tk, .int .i64 e.kd, .int .i64 e.id, .int .i64 e.fl, .int .i64 e.tw] 34))) := (Below.refl _ _).alloc (Nat.le_refl _) _
  go_enter Tryz.func31, Tryz.ntmps31
  have x2 := F0.out.c 2 _ rfl
  go_upto_region 2 with (first | (go_at_call 48; refine (l10Call_any a cap l e.id hl _ ((HE.out.below FB.out (Nat.le_refl _)).mono FB.out.size)).mono ?_; rintro r w1 ⟨⟨c, rfl, hc⟩, hb⟩; have F0 : Hid (Blk w1 w.heap.size [.int .i64 e.tk, .int .i64 e.kd, .int .i64 e.id, .int .i64 e.fl, .int .i64 e.tw]) := F0.out.below hb F0.out.lt; have FB : Hid (Below w.heap.size w w1) := FB.out.trans (hb.mono FB.out.size); clear hb) | (refine store_new [.int .i64 c.tk, .int .i64 c.kd, .int .i64 c.id, .int .i64 c.fl, .int .i64 c.tw] 34 _ _ (by kernel_rfl) (by kernel_rfl) (by kernel_rfl) rfl rfl rfl rfl ?_))
  clear x2
  obtain ⟨d, hd_⟩ : ∃ d, d = w1.heap.size := ⟨_, rfl⟩
  obtain ⟨W1, hw_⟩ : ∃ W1, W1 = w1.alloc (.cells #[.int .i64 c.tk, .int .i64 c.kd, .int .i64 c.id, .int .i64 c.fl, .int .i64 c.tw] 34) := ⟨_, rfl⟩
  have l0 := F0.out.lt
  rw [← hd_] at l0
  have F0 : Hid (Blk W1 w.heap.size [.int .i64 e.tk, .int .i64 e.kd, .int .i64 e.id, .int .i64 e.fl, .int .i64 e.tw]) := by rw [hw_]; exact F0.out.alloc _
  have FC : Hid (Blk W1 d [.int .i64 c.tk, .int .i64 c.kd, .int .i64 c.id, .int .i64 c.fl, .int .i64 c.tw]) := by rw [hw_]; exact Blk.at_ _ _ _ _ hd_
  have FB : Hid (Below w.heap.size w W1) := by rw [hw_]; exact FB.out.alloc FB.out.size _
  rw [← hw_, ← hd_]
  clear hw_ hd_
  have x0 := F0.out.c 0 _ rfl
  have x1 := F0.out.c 1 _ rfl
  have x2 := F0.out.c 2 _ rfl
  have x3 := F0.out.c 3 _ rfl
  have x4 := F0.out.c 4 _ rfl
  have y3 := FC.out.c 3 _ rfl
  have y4 := FC.out.c 4 _ rfl
  unfold nextC at hK
  cases hcl : callOf l e.id with
  | none =>
    rw [hcl] at hK
    by_cases e1 : e.kd = 1
    · have b1 : (e.kd == 1) = true := by simpa using e1
      have HK2 : Hid ((0 : Int) = K) := by rw [if_pos e1] at hK; exact hK
      clear hK e1 hS
      go_wp2_with fail
      go_ret
      exact ⟨ret_int HK2.out, FB.out⟩
    · have b1 : (e.kd == 1) = false := by simpa using e1
      have HK2 : Hid ((4 : Int) = K) := by rw [if_neg e1] at hK; exact hK
      clear hK e1 hS
      go_wp2_with fail
      go_ret
      exact ⟨ret_int HK2.out, FB.out⟩
  | some c2 =>
    rw [hcl] at hK
    obtain rfl := hc c2 hcl
    by_cases e1 : e.kd = 1
    · have b1 : (e.kd == 1) = true := by simpa using e1
      have HK2 : Hid ((6 : Int) = K) := by rw [if_pos e1] at hK; exact hK
      clear hK e1 hS
      go_wp2_with fail
      go_ret
      exact ⟨ret_int HK2.out, FB.out⟩
    · have b1 : (e.kd == 1) = false := by simpa using e1
      rw [if_neg e1] at hK
      dsimp only at hK
      by_cases e3 : e.kd = 3
      · have b2 : (e.kd == 2) = false := by rw [e3]; rfl
        have b3 : (e.kd == 3) = true := by rw [e3]; rfl
        by_cases s : S = 1
        · have bs : (S != 1) = false := by simpa using s
          by_cases f : e.fl = c.tw
          · have bf : (e.fl != c.tw) = false := by simpa using f
            have HK2 : Hid ((0 : Int) = K) := by show _ = K; rw [← hK]; simp [e3, s, f]
            clear hK
            go_wp2_with (first | (go_at_call 49; refine (l10State_any a cap l e.id hl HK.out _ ((HE.out.below FB.out (Nat.le_refl _)).mono FB.out.size)).mono ?_; rw [hS]; rintro r w' ⟨rfl, hw⟩; obtain rfl := hw.symm; clear hw))
            go_ret
            exact ⟨ret_int HK2.out, FB.out⟩
          · have bf : (e.fl != c.tw) = true := by simpa using f
            have HK2 : Hid ((1 : Int) = K) := by show _ = K; rw [← hK]; simp [e3, s, f]
            clear hK
            go_wp2_with (first | (go_at_call 49; refine (l10State_any a cap l e.id hl HK.out _ ((HE.out.below FB.out (Nat.le_refl _)).mono FB.out.size)).mono ?_; rw [hS]; rintro r w' ⟨rfl, hw⟩; obtain rfl := hw.symm; clear hw))
            go_ret
            exact ⟨ret_int HK2.out, FB.out⟩
        · have bs : (S != 1) = true := by simpa using s
          have HK2 : Hid ((1 : Int) = K) := by show _ = K; rw [← hK]; simp [e3, s]
          clear hK
          go_wp2_with (first | (go_at_call 49; refine (l10State_any a cap l e.id hl HK.out _ ((HE.out.below FB.out (Nat.le_refl _)).mono FB.out.size)).mono ?_; rw [hS]; rintro r w' ⟨rfl, hw⟩; obtain rfl := hw.symm; clear hw))
          go_ret
          exact ⟨ret_int HK2.out, FB.out⟩
      have b3 : (e.kd == 3) = false := by simpa using e3
      by_cases e4 : e.kd = 4
      · have b2 : (e.kd == 2) = false := by rw [e4]; rfl
        have b4 : (e.kd == 4) = true := by rw [e4]; rfl
        by_cases s : S = 1
        · have bs : (S != 1) = false := by simpa using s
          have HK2 : Hid ((0 : Int) = K) := by show _ = K; rw [← hK]; simp [e4, s]
          clear hK
          go_wp2_with (first | (go_at_call 49; refine (l10State_any a cap l e.id hl HK.out _ ((HE.out.below FB.out (Nat.le_refl _)).mono FB.out.size)).mono ?_; rw [hS]; rintro r w' ⟨rfl, hw⟩; obtain rfl := hw.symm; clear hw))
          go_ret
          exact ⟨ret_int HK2.out, FB.out⟩
        · have bs : (S != 1) = true := by simpa using s
          have HK2 : Hid ((1 : Int) = K) := by show _ = K; rw [← hK]; simp [e4, s]
          clear hK
          go_wp2_with (first | (go_at_call 49; refine (l10State_any a cap l e.id hl HK.out _ ((HE.out.below FB.out (Nat.le_refl _)).mono FB.out.size)).mono ?_; rw [hS]; rintro r w' ⟨rfl, hw⟩; obtain rfl := hw.symm; clear hw))
          go_ret
          exact ⟨ret_int HK2.out, FB.out⟩
      have b4 : (e.kd == 4) = false := by simpa using e4
      by_cases e2 : e.kd = 2
      · have b2 : (e.kd == 2) = true := by simpa using e2
        by_cases s : S = 0
        · have bs : (S != 0) = false := by simpa using s
          by_cases f : e.fl = c.fl
          · have bf : (e.fl != c.fl) = false := by simpa using f
            have HK2 : Hid ((0 : Int) = K) := by show _ = K; rw [← hK]; simp [e2, s, f]
            clear hK
            go_wp2_with (first | (go_at_call 49; refine (l10State_any a cap l e.id hl HK.out _ ((HE.out.below FB.out (Nat.le_refl _)).mono FB.out.size)).mono ?_; rw [hS]; rintro r w' ⟨rfl, hw⟩; obtain rfl := hw.symm; clear hw))
            go_ret
            exact ⟨ret_int HK2.out, FB.out⟩
          · have bf : (e.fl != c.fl) = true := by simpa using f
            have HK2 : Hid ((1 : Int) = K) := by show _ = K; rw [← hK]; simp [e2, s, f]
            clear hK
            go_wp2_with (first | (go_at_call 49; refine (l10State_any a cap l e.id hl HK.out _ ((HE.out.below FB.out (Nat.le_refl _)).mono FB.out.size)).mono ?_; rw [hS]; rintro r w' ⟨rfl, hw⟩; obtain rfl := hw.symm; clear hw))
            go_ret
            exact ⟨ret_int HK2.out, FB.out⟩
        · have bs : (S != 0) = true := by simpa using s
          have HK2 : Hid ((1 : Int) = K) := by show _ = K; rw [← hK]; simp [e2, s]
          clear hK
          go_wp2_with (first | (go_at_call 49; refine (l10State_any a cap l e.id hl HK.out _ ((HE.out.below FB.out (Nat.le_refl _)).mono FB.out.size)).mono ?_; rw [hS]; rintro r w' ⟨rfl, hw⟩; obtain rfl := hw.symm; clear hw))
          go_ret
          exact ⟨ret_int HK2.out, FB.out⟩
      have b2 : (e.kd == 2) = false := by simpa using e2
      by_cases s : S = 0
      · have bs : (S != 0) = false := by simpa using s
        have HK2 : Hid ((0 : Int) = K) := by show _ = K; rw [← hK]; simp [e2, e3, e4, s]
        clear hK
        go_wp2_with (first | (go_at_call 49; refine (l10State_any a cap l e.id hl HK.out _ ((HE.out.below FB.out (Nat.le_refl _)).mono FB.out.size)).mono ?_; rw [hS]; rintro r w' ⟨rfl, hw⟩; obtain rfl := hw.symm; clear hw))
        go_ret
        exact ⟨ret_int HK2.out, FB.out⟩
      · have bs : (S != 0) = true := by simpa using s
        have HK2 : Hid ((1 : Int) = K) := by show _ = K; rw [← hK]; simp [e2, e3, e4, s]
        clear hK
        go_wp2_with (first | (go_at_call 49; refine (l10State_any a cap l e.id hl HK.out _ ((HE.out.below FB.out (Nat.le_refl _)).mono FB.out.size)).mono ?_; rw [hS]; rintro r w' ⟨rfl, hw⟩; obtain rfl := hw.symm; clear hw))
        go_ret
        exact ⟨ret_int HK2.out, FB.out⟩
end Go.Proofs.YtoacnglcneliiaaGreatDoor
