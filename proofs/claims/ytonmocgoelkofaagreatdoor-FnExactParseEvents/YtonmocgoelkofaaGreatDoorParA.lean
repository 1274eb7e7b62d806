/-
  The model cuts a text, finds its words, reads a number.
-/
import Derived.Test.YtonmocgoelkofaaGreatDoorStrR
import Derived.Deep.RegionHeld3
import Derived.BigGuardPart
namespace Go.Proofs.YtonmocgoelkofaaGreatDoor
open Go.RowKit Pl
set_option linter.unusedSimpArgs false
set_option linter.unusedVariables false

theorem numF_none (s : ByteArray) (k i n : Nat) (h : ¬ isDg (s.get! i)) : numF s (k + 1) i n = none := by
  unfold numF; rw [if_neg h]
theorem numF_some (s : ByteArray) (k i n : Nat) (h : isDg (s.get! i)) : numF s (k + 1) i n = numF s k (i + 1) (n * 10 + ((s.get! i).toNat - 48)) := by
  show (if isDg (s.get! i) then _ else _) = _
  rw [if_pos h]
set_option maxRecDepth 20000 in
set_option maxHeartbeats 16000000 in
theorem l9Number_any (s : ByteArray) (hs : s.size ≤ 1048576) (w : World) :
    Calls Tryz.prog 26 #[.string s] w fun e w' => e = .returned (.tuple #[.int .i64 (((numS s).getD 0 : Nat) : Int), .bool (numS s).isSome]) ∧ w' = w := by
  obtain ⟨z, hz⟩ : ∃ z, s.size = z := ⟨_, rfl⟩
  by_cases h0 : z < 1 ∨ 9 < z
  · have hn : numS s = none := by unfold numS; rw [hz]; exact if_pos h0
    rw [hn]
    rcases h0 with h0 | h0
    · have : z = 0 := by omega
      subst this
      go_enter Tryz.func26, Tryz.ntmps26
      go_wp2_with fail
      go_ret2
      exact ⟨rfl, rfl⟩
    · have h1 : ¬ (z : Int) < 1 := by omega
      have h2 : (9 : Int) < z := by omega
      go_enter Tryz.func26, Tryz.ntmps26
      go_wp2_with fail
      go_ret2
      exact ⟨rfl, rfl⟩
  · have hN : numF s z 0 0 = numS s := by unfold numS; rw [hz, if_neg h0]
    have h1 : ¬ (z : Int) < 1 := by omega
    have h2 : ¬ (9 : Int) < z := by omega
    have h9 : z ≤ 9 := by omega
    go_enter Tryz.func26, Tryz.ntmps26
    go_wp2_with fail
    go_loopw [4, 5] (fun nn ii wr => ∃ (i n : Nat), nn = .int .i64 (n : Int) ∧ ii = .int .i64 (i : Int) ∧ i ≤ z ∧ n < 10 ^ i ∧ numF s (z - i) i n = numS s ∧ wr = w) (fun _ ii _ => z - (intOf ii).toNat)
    case atStart => exact ⟨0, 0, rfl, rfl, by omega, by decide, hN, rfl⟩
    case round =>
      obtain ⟨i, n, rfl, rfl, hi, hn, hf, rfl⟩ := hrel
      by_cases hlt : i < z
      · have hb := byte_at s i (by omega)
        have hp : (10 : Nat) ^ i ≤ 10 ^ 8 := Nat.pow_le_pow_right (by decide) (by omega)
        obtain ⟨k, hk⟩ : ∃ k, z - i = k + 1 := ⟨z - i - 1, by omega⟩
        rw [hk] at hf
        have hlt' : (i : Int) < z := by omega
        by_cases hd : isDg (s.get! i)
        · rw [numF_some s k i n hd] at hf
          have hd1 := hd.1
          have hd2 := hd.2
          obtain ⟨b, hbb⟩ : ∃ b, (s.get! i).toNat = b := ⟨_, rfl⟩
          rw [hbb] at hb hf hd1 hd2
          have g1 : ¬ (b : Int) < 48 := by omega
          have g2 : ¬ (57 : Int) < b := by omega
          have e1 : IntKind.i64.wrap ((n : Int) * 10) = (n : Int) * 10 := IntWalk.i64_in _ (by omega)
          have e2 : IntKind.u8.wrap ((b : Int) - 48) = (b : Int) - 48 := by simp [IntKind.wrap, IntKind.bits]; omega
          have e3 : IntKind.i64.wrap ((b : Int) - 48) = (b : Int) - 48 := IntWalk.i64_in _ (by omega)
          have e4 : IntKind.i64.wrap ((n : Int) * 10 + ((b : Int) - 48)) = (n : Int) * 10 + ((b : Int) - 48) := IntWalk.i64_in _ (by omega)
          clear hd hbb
          go_wp2_with fail
          go_roundw
          case rel => exact ⟨i + 1, n * 10 + (b - 48), by congr 1; omega, by simp, by omega, by rw [Nat.pow_succ]; omega, by rw [show z - (i + 1) = k by omega]; exact hf, by first | rfl | trivial⟩
          case measure => simp [intOf]; omega
        · have HNn : Hid (numS s = none) := by rw [← hf]; exact numF_none s k i n hd
          obtain ⟨b, hbb⟩ : ∃ b, (s.get! i).toNat = b := ⟨_, rfl⟩
          rw [hbb] at hb
          have hd' : b < 48 ∨ 57 < b := by
            unfold isDg at hd
            rw [hbb] at hd
            omega
          clear hd hbb hf hN
          rcases hd' with g | g
          · have g1 : (b : Int) < 48 := by omega
            go_wp2_with fail
            go_ret2
            rw [HNn.out]
            exact ⟨rfl, rfl⟩
          · have g1 : ¬ (b : Int) < 48 := by omega
            have g2 : (57 : Int) < b := by omega
            go_wp2_with fail
            go_ret2
            rw [HNn.out]
            exact ⟨rfl, rfl⟩
      · have ei : i = z := by omega
        subst ei
        rw [Nat.sub_self] at hf
        have HNs : Hid (numS s = some n) := by rw [← hf]; rfl
        have hge : ¬ (i : Int) < i := by omega
        clear hf hN
        go_wp2_with fail
        go_ret2
        rw [HNs.out]
        exact ⟨rfl, rfl⟩
set_option maxRecDepth 20000 in
set_option maxHeartbeats 16000000 in
theorem l9Cut_any (s : ByteArray) (c : UInt8) (hs : s.size ≤ 1048576) (w : World) :
    Calls Tryz.prog 11 #[.string s, .int .u8 (c.toNat : Int)] w fun e w' => ∃ v, e = .returned v ∧ OwS w' w.heap.size v (cutS s c) ∧ Below w.heap.size w w' := by
  obtain ⟨z, hz⟩ : ∃ z, s.size = z := ⟨_, rfl⟩
  obtain ⟨d, hd⟩ : ∃ d, (c.toNat : Int) = d := ⟨_, rfl⟩
  rw [hd]
  obtain ⟨i0, qI⟩ := info_parts infoStr
  have hI : Hid (Tryz.prog.info? 9 = some i0 ∧ i0.zero = some (.string ByteArray.empty) ∧ i0.size = 1 ∧ i0.bytes = 16) := qI
  clear qI
  rw [hz] at hs
  go_enter Tryz.func11, Tryz.ntmps11
  go_wp2_with fail
  go_loopw [5, 6, 7] (fun oo ff ii wr => ∃ (i f : Nat) (acc : List ByteArray) (v : Value), oo = v ∧ ff = .int .i64 (f : Int) ∧ ii = .int .i64 (i : Int) ∧ acc.length ≤ i ∧ ((i ≤ z ∧ f ≤ i ∧ acc ++ cutF s c (z - i) f i = cutS s c) ∨ (i = z + 1 ∧ acc = cutS s c)) ∧ OwS wr w.heap.size v acc ∧ Below w.heap.size w wr) (fun _ _ ii _ => z + 2 - (intOf ii).toNat)
  case atStart => exact ⟨0, 0, [], _, rfl, rfl, rfl, Nat.le_refl _, Or.inl ⟨by omega, Nat.le_refl _, by unfold cutS; rw [hz]; rfl⟩, ows_lit w _ (Nat.le_refl _), (Below.refl _ _).alloc (Nat.le_refl _) _⟩
  case round =>
    obtain ⟨i, f, acc, v, hvv, rfl, rfl, hal, hc, ho, hb⟩ := hrel
    have hvv' := hvv.symm
    subst hvv'
    have FO : Hid (OwS wr w.heap.size v acc) := ho
    have FB : Hid (Below w.heap.size w wr) := hb
    have lsz := FB.out.size
    clear ho hb
    rcases hc with ⟨hi, hf, hc⟩ | ⟨rfl, hc⟩
    · have hle : (i : Int) ≤ z := by omega
      have hpc := piece_at s f i hf (by omega)
      have APP : ∀ {ops : Array Oper} {rest : List Oper} {o : Oper} {a : Act} {Q : Exit → Act → World → Prop}, True := fun {_ _ _ _ _} => trivial
      clear APP
      by_cases hlt : i < z
      · have hne : ¬ (i : Int) = z := by omega
        have hby := byte_at s i (by omega)
        obtain ⟨k, hk⟩ : ∃ k, z - i = k + 1 := ⟨z - i - 1, by omega⟩
        rw [hk] at hc
        by_cases hbc : s.get! i = c
        · rw [cutF_hit s c k f i hbc] at hc
          have hcc : Hid ((acc ++ [s.extract f i]) ++ cutF s c k (i + 1) (i + 1) = cutS s c) := by show _ = _; rw [List.append_assoc]; exact hc
          rw [hbc, hd] at hby
          obtain ⟨x, hx⟩ : ∃ x, s.extract f i = x := ⟨_, rfl⟩
          rw [hx] at hpc hcc
          clear hc hx hbc hd
          go_wp2_with (at_builtin; go_loud (refine wpList_append_own _ rfl _ _ 34 rfl w.heap.size 9 i0 (.string ByteArray.empty) 1 16 undStrs hI.out.1 hI.out.2.1 hI.out.2.2.1 hI.out.2.2.2 rfl (by omega) _ acc.length _ rfl (FO.out.alloc _) ⟨wr.heap.size, 0, none⟩ 1 1 [.string x] rfl rfl (one_newS wr x _) (one_cellS x) (by unfold maxLen; omega) (by omega) (by simp; omega) ?_); intro v1 w3 ho hg hn; have FO3 : Hid (OwS w3 w.heap.size v1 (acc ++ [x])) := OwS.app ho; have FB3 : Hid (Below w.heap.size w w3) := (FB.out.alloc FB.out.size _).grown hg (by simp; omega) (fun j hj => (FO.out.lt j hj).1); clear ho hg hn)
          go_roundw
          case rel => exact ⟨i + 1, i + 1, acc ++ [x], v1, rfl, by simp, by simp, by simp; omega, Or.inl ⟨by omega, Nat.le_refl _, by rw [show z - (i + 1) = k by omega]; exact hcc.out⟩, FO3.out, FB3.out⟩
          case measure => simp [intOf]; omega
        · rw [cutF_miss s c k f i hbc] at hc
          have hbd : ¬ ((s.get! i).toNat : Int) = d := by
            intro e; apply hbc; apply UInt8.toNat_inj.1; omega
          obtain ⟨b, hb⟩ : ∃ b, ((s.get! i).toNat : Int) = b := ⟨_, rfl⟩
          rw [hb] at hby hbd
          have hcc : Hid (acc ++ cutF s c k f (i + 1) = cutS s c) := hc
          clear hc hb hbc hd hpc
          go_wp2_with fail
          go_roundw
          case rel => exact ⟨i + 1, f, acc, v, rfl, rfl, by simp, by omega, Or.inl ⟨by omega, by omega, by rw [show z - (i + 1) = k by omega]; exact hcc.out⟩, FO.out, FB.out⟩
          case measure => simp [intOf]; omega
      · have ei : i = z := by omega
        subst ei
        rw [Nat.sub_self] at hc
        have hcc : Hid (acc ++ [s.extract f i] = cutS s c) := hc
        obtain ⟨x, hx⟩ : ∃ x, s.extract f i = x := ⟨_, rfl⟩
        rw [hx] at hpc hcc
        clear hc hx hd
        go_wp2_with (at_builtin; go_loud (refine wpList_append_own _ rfl _ _ 34 rfl w.heap.size 9 i0 (.string ByteArray.empty) 1 16 undStrs hI.out.1 hI.out.2.1 hI.out.2.2.1 hI.out.2.2.2 rfl (by omega) _ acc.length _ rfl (FO.out.alloc _) ⟨wr.heap.size, 0, none⟩ 1 1 [.string x] rfl rfl (one_newS wr x _) (one_cellS x) (by unfold maxLen; omega) (by omega) (by simp; omega) ?_); intro v1 w3 ho hg hn; have FO3 : Hid (OwS w3 w.heap.size v1 (acc ++ [x])) := OwS.app ho; have FB3 : Hid (Below w.heap.size w w3) := (FB.out.alloc FB.out.size _).grown hg (by simp; omega) (fun j hj => (FO.out.lt j hj).1); clear ho hg hn)
        go_roundw
        case rel => exact ⟨i + 1, i + 1, acc ++ [x], v1, rfl, by simp, by simp, by simp; omega, Or.inr ⟨rfl, hcc.out⟩, FO3.out, FB3.out⟩
        case measure => simp [intOf] <;> omega
    · have hgt : ¬ ((z : Int) + 1 ≤ z) := by omega
      rw [hc] at FO
      clear hc hd
      go_wp2_with fail
      go_ret
      exact ⟨_, rfl, FO.out, FB.out⟩
theorem filt_take {l : List ByteArray} {i : Nat} {x : ByteArray} (h : l[i]? = some x) : (l.take (i + 1)).filter neB = (l.take i).filter neB ++ (if neB x = true then [x] else []) := by
  rw [List.take_add_one, h, List.filter_append]
  cases hx : neB x <;> simp [hx]
set_option maxRecDepth 20000 in
set_option maxHeartbeats 16000000 in
theorem l9Words_any (s : ByteArray) (hs : s.size ≤ 1048576) (w : World) :
    Calls Tryz.prog 13 #[.string s] w fun e w' => ∃ v, e = .returned v ∧ OwS w' w.heap.size v (wordsS s) ∧ Below w.heap.size w w' := by
  obtain ⟨i0, qI⟩ := info_parts infoStr
  have hI : Hid (Tryz.prog.info? 9 = some i0 ∧ i0.zero = some (.string ByteArray.empty) ∧ i0.size = 1 ∧ i0.bytes = 16) := qI
  clear qI
  have CC : ∀ W, Calls Tryz.prog 11 #[.string s, .int .u8 32] W fun e w' => ∃ v, e = .returned v ∧ OwS w' W.heap.size v (cutS s 32) ∧ Below W.heap.size W w' := fun W => l9Cut_any s 32 hs W
  obtain ⟨L, hL⟩ : ∃ L, cutS s 32 = L := ⟨_, rfl⟩
  rw [hL] at CC
  have hne : L ≠ [] := by rw [← hL]; exact cutF_ne s 32 _ _ _
  have hlen : L.length ≤ s.size + 1 := by rw [← hL]; exact cutF_len s 32 _ _ _
  have HL : Hid (wordsS s = L.filter neB) := by rw [← hL]; rfl
  clear hL
  go_enter Tryz.func13, Tryz.ntmps13
  go_upto_region 3 with (go_at_call 11; refine (CC _).mono ?_; rintro e w1 ⟨vc, rfl, hoc, hb⟩)
  have FB : Hid (Below w.heap.size w w1) := ((Below.refl _ _).alloc (Nat.le_refl _) _).trans (hb.mono (by simp))
  have FE : Hid (OwS w1 w.heap.size (.slice (some ⟨w.heap.size, 0, none⟩) 0 0) []) := (ows_lit w _ (Nat.le_refl _)).below hb (fun k hk => by simp [Value.ownBlock] at hk; subst hk; simp)
  have HG : Hid (w.heap.size + 1 ≤ w1.heap.size) := by have := hb.size; show _ ≤ _; simpa using this
  rcases hoc.cases with ⟨_, h0⟩ | ⟨g, cg, rfl⟩
  · exact absurd h0 hne
  have lg : w.heap.size + 1 ≤ g ∧ g < w1.heap.size := by have := hoc.lt g rfl; simpa using this
  have FC : Hid (∀ i x, L[i]? = some x → w1.cell? ⟨g, i, none⟩ = some (.string x)) := fun i x hx => hoc.cell hx
  clear hb hoc hne
  go_wp2_with fail
  go_loopw [3, 5] (fun oo ii wr => ∃ (i : Nat) (v : Value), oo = v ∧ ii = .int .i64 (i : Int) ∧ i ≤ L.length ∧ OwS wr w.heap.size v ((L.take i).filter neB) ∧ (∀ i x, L[i]? = some x → wr.cell? ⟨g, i, none⟩ = some (.string x)) ∧ v.ownBlock ≠ some g ∧ g < wr.heap.size ∧ Below w.heap.size w wr) (fun _ ii _ => L.length - (intOf ii).toNat)
  case atStart => exact ⟨0, _, rfl, rfl, by omega, by simpa using FE.out, FC.out, by simp [Value.ownBlock]; omega, lg.2, FB.out⟩
  case round =>
    obtain ⟨i, v, hvv, rfl, hi, ho, hc, hvg, hg, hb⟩ := hrel
    have hvv' := hvv.symm
    subst hvv'
    have FO : Hid (OwS wr w.heap.size v ((L.take i).filter neB)) := ho
    have FC : Hid (∀ i x, L[i]? = some x → wr.cell? ⟨g, i, none⟩ = some (.string x)) := hc
    have FB : Hid (Below w.heap.size w wr) := hb
    have lsz := FB.out.size
    clear ho hb hc FE
    by_cases hlt : i < L.length
    · obtain ⟨x, hx⟩ : ∃ x, L[i]? = some x := ⟨_, List.getElem?_eq_getElem hlt⟩
      have c0 := FC.out i x hx
      have hft := filt_take hx
      have hln : ((L.take i).filter neB).length ≤ i := Nat.le_trans (List.length_filter_le _ _) (by rw [List.length_take]; omega)
      have hli : (i : Int) < L.length := by omega
      obtain ⟨acc, hacc⟩ : ∃ acc, (L.take i).filter neB = acc := ⟨_, rfl⟩
      rw [hacc] at hft FO hln
      cases hn : neB x
      · have hem := toList_eq_nil x hn
        rw [hn] at hft
        have FO2 : Hid (OwS wr w.heap.size v ((L.take (i + 1)).filter neB)) := by rw [hft]; show OwS _ _ _ _; simpa using FO.out
        clear hft hx hn hacc
        go_wp2_with fail
        go_roundw
        case rel => exact ⟨i + 1, v, rfl, by simp, by omega, FO2.out, FC.out, hvg, hg, FB.out⟩
        case measure => simp [intOf]; omega
      · have hem := toList_neq_nil x hn
        have hem2 : (x.toList == []) = false := by simpa using hem
        have hem3 : x.toList.isEmpty = false := by simpa using hem
        rw [hn] at hft
        have HF : Hid ((L.take (i + 1)).filter neB = acc ++ [x]) := by rw [hft]; rfl
        clear hft hx hn hacc
        go_wp2_with (at_builtin; go_loud (refine wpS rfl _ _ rfl w.heap.size v acc x rfl (FO.out.alloc _) wr.heap.size rfl (by simp) (by omega) (by simp; omega) ?_); intro v1 w3 ho hg2 hap)
        have FO3 : Hid (OwS w3 w.heap.size v1 (acc ++ [x])) := ho
        have FB3 : Hid (Below w.heap.size w w3) := (FB.out.alloc FB.out.size _).grown hg2 (by simp; omega) (fun j hj => (FO.out.lt j hj).1)
        have hv1 : v1.ownBlock ≠ some g := by
          rcases hap with e | e
          · rw [e]; exact hvg
          · intro e2; have := e g e2; simp at this; omega
        have HGR : Hid ((wr.alloc (.cells #[.string x] 9)).grownBy w3 v.ownBlock) := hg2
        clear ho hg2 hap
        have hg3 : g < w3.heap.size := Nat.lt_of_lt_of_le hg (Nat.le_trans (by simp) HGR.out.size)
        have FC3 : Hid (∀ i x, L[i]? = some x → w3.cell? ⟨g, i, none⟩ = some (.string x)) := by
          intro j y hy
          have q := FC.out j y hy
          have hblk : w3.heap[g]? = wr.heap[g]? := (HGR.out.block g (by simp; omega) hvg.symm).trans (Below.heap_alloc _ _ _ hg)
          show w3.cell? _ = _
          simp only [World.cell?] at q ⊢
          rw [hblk]
          exact q
        go_roundw
        case rel => exact ⟨i + 1, v1, rfl, by simp, by omega, by rw [HF.out]; exact FO3.out, FC3.out, hv1, hg3, FB3.out⟩
        case measure => simp [intOf]; omega
    · have ei : i = L.length := by omega
      have hge : ¬ ((L.length : Int) < L.length) := by omega
      subst ei
      rw [List.take_length, ← HL.out] at FO
      clear HL
      go_wp2_with fail
      go_ret
      exact ⟨_, rfl, FO.out, FB.out⟩
end Go.Proofs.YtonmocgoelkofaaGreatDoor
