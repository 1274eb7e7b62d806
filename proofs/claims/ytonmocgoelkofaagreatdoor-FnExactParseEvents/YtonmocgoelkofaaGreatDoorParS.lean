/-
  The model's ParseEvents.
-/
import Derived.Test.YtonmocgoelkofaaGreatDoorParI
import Derived.Test.YtonmocgoelkofaaGreatDoorParB
import Derived.Test.YtonmocgoelkofaaGreatDoorEvS
namespace Go.Proofs.YtonmocgoelkofaaGreatDoor
open Go.RowKit Pl
set_option linter.unusedSimpArgs false
set_option linter.unusedVariables false

theorem ownS_cap {w : World} {B n c : Nat} {a : Option Addr} {l : List ByteArray} (h : OwS w B (.slice a n c) l) : l.length ≤ c := by
  rcases h.2 with ⟨_, hn⟩ | ⟨g, cap, cur, e, _, _, hc, _⟩
  · omega
  · injection e with e1 e2 e3
    omega
theorem ownE_cap {w : World} {B n c : Nat} {a : Option Addr} {l : List Ev} (h : OwnE w B (.slice a n c) l) : l.length ≤ c := by
  rcases h.2 with ⟨_, hn⟩ | ⟨g, cap, cur, e, _, _, hc, _⟩
  · omega
  · injection e with e1 e2 e3
    omega
theorem l10Read_own (ws : List ByteArray) (v : Value) (B : Nat) (hl : ws.length ≤ 1048577) (hsz : ∀ x ∈ ws, x.size ≤ 1048576) (w : World) (h : OwS w B v ws) (h0 : 0 < w.heap.size) :
    Calls Tryz.prog 12 #[v] w fun e w' => (∃ q : Ev, e = .returned (.tuple #[.agg #[.int .i64 q.tk, .int .i64 q.kd, .int .i64 q.id, .int .i64 q.fl, .int .i64 q.tw], .bool (rdE ws).isSome]) ∧ ∀ ev, rdE ws = some ev → q = ev) ∧ Below w.heap.size w w' := by
  rcases h.cases with ⟨rfl, hn⟩ | ⟨g, cap, rfl⟩
  · subst hn
    exact l10Read_any [] none 0 0 (by simp) (by simp) w h0 (fun i x hx => by simp at hx) (Or.inl (by simp))
  · exact l10Read_any ws (some ⟨g, 0, none⟩) g cap hl hsz w (h.lt g rfl).2 (fun i x hx => h.cell hx) (Or.inr rfl)
set_option maxRecDepth 20000 in
set_option maxHeartbeats 32000000 in
theorem specParse_any (h : Hs) (s : ByteArray) (hs : s.size ≤ 1048576) (w : World) :
    Calls Tryz.prog 4 #[.agg #[.int .i64 h.fl, .int .i64 h.gp, .int .i64 h.ln, .int .i64 h.rf, .int .i64 h.sp, .int .i64 h.pu, .int .i64 h.br, .int .i64 h.dr, .int .i64 h.lv, .int .i64 h.dO, .int .i64 h.ld, .int .i64 h.qu], .string s] w (isPa w (Hs.paK h s) (Hs.paA h s) (Hs.paV h s)) := by
  obtain ⟨W0, hW0⟩ : ∃ W0, W0 = (w.alloc (.cells #[.int .i64 h.fl, .int .i64 h.gp, .int .i64 h.ln, .int .i64 h.rf, .int .i64 h.sp, .int .i64 h.pu, .int .i64 h.br, .int .i64 h.dr, .int .i64 h.lv, .int .i64 h.dO, .int .i64 h.ld, .int .i64 h.qu] 28)).alloc (.cells #[.int .i64 0, .int .i64 0, .slice none 0 0] 26) := ⟨_, rfl⟩
  have F0 : Hid (Blk W0 w.heap.size [.int .i64 h.fl, .int .i64 h.gp, .int .i64 h.ln, .int .i64 h.rf, .int .i64 h.sp, .int .i64 h.pu, .int .i64 h.br, .int .i64 h.dr, .int .i64 h.lv, .int .i64 h.dO, .int .i64 h.ld, .int .i64 h.qu]) := by rw [hW0]; exact (Blk.at_ w #[.int .i64 h.fl, .int .i64 h.gp, .int .i64 h.ln, .int .i64 h.rf, .int .i64 h.sp, .int .i64 h.pu, .int .i64 h.br, .int .i64 h.dr, .int .i64 h.lv, .int .i64 h.dO, .int .i64 h.ld, .int .i64 h.qu] _ _ rfl).alloc _
  have FR : Hid (Blk W0 (w.heap.size + 1) [.int .i64 0, .int .i64 0, .slice none 0 0]) := by rw [hW0]; exact Blk.at_ _ #[.int .i64 0, .int .i64 0, .slice none 0 0] _ _ (by simp)
  have FB : Hid (Below w.heap.size w W0) := by rw [hW0]; exact ((Below.refl _ _).alloc (Nat.le_refl _) _).alloc (by simp) _
  have HW0 : Hid (W0 = (w.alloc (.cells #[.int .i64 h.fl, .int .i64 h.gp, .int .i64 h.ln, .int .i64 h.rf, .int .i64 h.sp, .int .i64 h.pu, .int .i64 h.br, .int .i64 h.dr, .int .i64 h.lv, .int .i64 h.dO, .int .i64 h.ld, .int .i64 h.qu] 28)).alloc (.cells #[.int .i64 0, .int .i64 0, .slice none 0 0] 26)) := hW0
  clear hW0
  by_cases hf : h.fault = 0
  case neg =>
    unfold isPa Hs.paK Hs.paA Hs.paV
    have hfb : (h.fault == 0) = false := by simpa using hf
    rw [if_pos hf, if_pos hf, if_pos hf]
    obtain ⟨k, hk⟩ : ∃ k, h.fault = k := ⟨_, rfl⟩
    have CF := fun W => specFault_any h W
    rw [hk] at CF hfb ⊢
    clear hf hk
    go_enter Tryz.func4, Tryz.ntmps4
    go_upto_region 1 with fail
    rw [← HW0.out]
    go_wp2_with (first | (refine load_blk 28 _ Tryz.underlying28 (by kernel_rfl) F0.out rfl rfl rfl ?_) | (go_at_call 10; refine (CF _).mono ?_; rintro e w1 ⟨rfl, hb⟩; have F0 : Hid (Blk w1 w.heap.size [.int .i64 h.fl, .int .i64 h.gp, .int .i64 h.ln, .int .i64 h.rf, .int .i64 h.sp, .int .i64 h.pu, .int .i64 h.br, .int .i64 h.dr, .int .i64 h.lv, .int .i64 h.dO, .int .i64 h.ld, .int .i64 h.qu]) := F0.out.below hb F0.out.lt; have FR : Hid (Blk w1 (w.heap.size + 1) [.int .i64 0, .int .i64 0, .slice none 0 0]) := FR.out.below hb FR.out.lt; have FB : Hid (Below w.heap.size w w1) := FB.out.trans (hb.mono FB.out.size); clear hb) | (refine store_blk [.int .i64 k, .int .i64 0, .slice none 0 0] 26 _ _ (by kernel_rfl) (by kernel_rfl) (by kernel_rfl) FR.out rfl rfl rfl rfl ?_))
    exact bodyPost_ret (v := .agg #[.int .i64 k, .int .i64 0, .slice none 0 0]) ((FR.out.row [.int .i64 k, .int .i64 0, .slice none 0 0]).res _ Tryz.results4 Tryz.underlying26 (by kernel_rfl) rfl) rfl ⟨_, rfl, ownE_nil _ _, below_row FB.out (by omega) _⟩
  have CF := fun W => specFault_any h W
  have hf2 : ¬ (h.fault ≠ 0) := fun q => q hf
  rw [hf] at CF
  by_cases hz : 3000 < s.size
  · unfold isPa Hs.paK Hs.paA Hs.paV
    rw [if_neg hf2, if_neg hf2, if_neg hf2, if_pos hz, if_pos hz, if_pos hz]
    clear hf hf2
    have hzi : (3000 : Int) < (s.size : Int) := by omega
    go_enter Tryz.func4, Tryz.ntmps4
    go_upto_region 1 with fail
    rw [← HW0.out]
    go_wp2_with (first | (refine load_blk 28 _ Tryz.underlying28 (by kernel_rfl) F0.out rfl rfl rfl ?_) | (go_at_call 10; refine (CF _).mono ?_; rintro e w1 ⟨rfl, hb⟩; have F0 : Hid (Blk w1 w.heap.size [.int .i64 h.fl, .int .i64 h.gp, .int .i64 h.ln, .int .i64 h.rf, .int .i64 h.sp, .int .i64 h.pu, .int .i64 h.br, .int .i64 h.dr, .int .i64 h.lv, .int .i64 h.dO, .int .i64 h.ld, .int .i64 h.qu]) := F0.out.below hb F0.out.lt; have FR : Hid (Blk w1 (w.heap.size + 1) [.int .i64 0, .int .i64 0, .slice none 0 0]) := FR.out.below hb FR.out.lt; have FB : Hid (Below w.heap.size w w1) := FB.out.trans (hb.mono FB.out.size); clear hb) | (refine store_blk [.int .i64 2, .int .i64 0, .slice none 0 0] 26 _ _ (by kernel_rfl) (by kernel_rfl) (by kernel_rfl) FR.out rfl rfl rfl rfl ?_))
    exact bodyPost_ret (v := .agg #[.int .i64 2, .int .i64 0, .slice none 0 0]) ((FR.out.row [.int .i64 2, .int .i64 0, .slice none 0 0]).res _ Tryz.results4 Tryz.underlying26 (by kernel_rfl) rfl) rfl ⟨_, rfl, ownE_nil _ _, below_row FB.out (by omega) _⟩
  have hzi : ¬ ((3000 : Int) < (s.size : Int)) := by omega
  obtain ⟨K, hK⟩ : ∃ K, Hs.paK h s = K := ⟨_, rfl⟩
  obtain ⟨A, hA⟩ : ∃ A, Hs.paA h s = A := ⟨_, rfl⟩
  obtain ⟨V, hV⟩ : ∃ V, Hs.paV h s = V := ⟨_, rfl⟩
  have HP5 : Hid (∀ i : Nat, fb (lnS s) 0 = some i → K = 5 ∧ A = (i : Int) ∧ V = []) := fun i e =>
    ⟨by rw [← hK]; unfold Hs.paK; rw [if_neg hf2, if_neg hz, e], by rw [← hA]; unfold Hs.paA; rw [if_neg hf2, if_neg hz, e], by rw [← hV]; unfold Hs.paV; rw [if_neg hf2, if_neg hz, e]⟩
  have HP0 : Hid (fb (lnS s) 0 = none → K = Hs.tr h (evsL (lnS s)) ∧ A = 0 ∧ V = if Hs.tr h (evsL (lnS s)) = 0 then evsL (lnS s) else []) := fun e =>
    ⟨by rw [← hK]; unfold Hs.paK; rw [if_neg hf2, if_neg hz, e], by rw [← hA]; unfold Hs.paA; rw [if_neg hf2, if_neg hz, e], by rw [← hV]; unfold Hs.paV; rw [if_neg hf2, if_neg hz, e]⟩
  rw [hK, hA, hV]
  clear hK hA hV hf hf2
  unfold isPa
  have CC : ∀ W, Calls Tryz.prog 11 #[.string s, .int .u8 10] W fun e w' => ∃ v, e = .returned v ∧ OwS w' W.heap.size v (cutS s 10) ∧ Below W.heap.size W w' := fun W => l9Cut_any s 10 hs W
  have lS := lnS_len s
  have HZ : Hid (∀ x ∈ lnS s, x.size ≤ 1048576) := fun x hx => Nat.le_trans (lnS_mem hx) hs
  have HT : Hid (∀ (i : Nat) x, (lnS s)[i]? = some x → (cutS s 10)[i]? = some x) := fun i x hx => by
    unfold lnS at hx
    rw [List.getElem?_take] at hx
    split at hx
    · exact hx
    · cases hx
  have hne := cutF_ne s 10 s.size 0 0
  have hlen := cutF_len s 10 s.size 0 0
  rw [show cutF s 10 s.size 0 0 = cutS s 10 from rfl] at hne hlen
  obtain ⟨LS, hLS⟩ : ∃ LS, lnS s = LS := ⟨_, rfl⟩
  rw [hLS] at HT HZ lS HP5 HP0
  obtain ⟨L, hL⟩ : ∃ L, cutS s 10 = L := ⟨_, rfl⟩
  have HN : Hid (lnN s = if neB (L.getD (L.length - 1) ⟨#[]⟩) = true then L.length else L.length - 1) := by rw [← hL]; rfl
  rw [hL] at CC HT hne hlen
  obtain ⟨k, hk⟩ : ∃ k, L.length = k + 1 := ⟨L.length - 1, by have := List.length_pos_iff.2 hne; omega⟩
  obtain ⟨x, hx⟩ : ∃ x, L[k]? = some x := ⟨_, List.getElem?_eq_getElem (by omega)⟩
  have hgd : L.getD (L.length - 1) ⟨#[]⟩ = x := by rw [hk, Nat.add_sub_cancel, List.getD_eq_getElem?_getD, hx]; rfl
  rw [hgd, hk, Nat.add_sub_cancel] at HN
  have HL : Hid (L.length = k + 1) := hk
  have hk3 : k ≤ 3000 := by omega
  have HX : Hid (L[k]? = some x) := hx
  clear hLS hL hgd hlen hk hz hs
  go_enter Tryz.func4, Tryz.ntmps4
  go_upto_region 1 with fail
  rw [← HW0.out]
  clear HW0 hx
  go_upto_region 7 with (first | (refine load_blk 28 _ Tryz.underlying28 (by kernel_rfl) F0.out rfl rfl rfl ?_) | (go_at_call 10; refine (CF _).mono ?_; rintro e w1 ⟨rfl, hb⟩; have F0 : Hid (Blk w1 w.heap.size [.int .i64 h.fl, .int .i64 h.gp, .int .i64 h.ln, .int .i64 h.rf, .int .i64 h.sp, .int .i64 h.pu, .int .i64 h.br, .int .i64 h.dr, .int .i64 h.lv, .int .i64 h.dO, .int .i64 h.ld, .int .i64 h.qu]) := F0.out.below hb F0.out.lt; have FR : Hid (Blk w1 (w.heap.size + 1) [.int .i64 0, .int .i64 0, .slice none 0 0]) := FR.out.below hb FR.out.lt; have FB : Hid (Below w.heap.size w w1) := FB.out.trans (hb.mono FB.out.size); clear hb) | (go_at_call 11; refine (CC _).mono ?_; rintro e w2 ⟨v, rfl, ho, hb⟩; have FL : Hid (OwS w2 (w.heap.size + 2) v L) := ho.base FR.out.lt; have F0 : Hid (Blk w2 w.heap.size [.int .i64 h.fl, .int .i64 h.gp, .int .i64 h.ln, .int .i64 h.rf, .int .i64 h.sp, .int .i64 h.pu, .int .i64 h.br, .int .i64 h.dr, .int .i64 h.lv, .int .i64 h.dO, .int .i64 h.ld, .int .i64 h.qu]) := F0.out.below hb F0.out.lt; have FR : Hid (Blk w2 (w.heap.size + 1) [.int .i64 0, .int .i64 0, .slice none 0 0]) := FR.out.below hb FR.out.lt; have FB : Hid (Below w.heap.size w w2) := FB.out.trans (hb.mono FB.out.size); clear ho hb))
  rcases FL.out.cases with ⟨_, h0⟩ | ⟨g, cg, e⟩
  · exact absurd h0 hne
  rw [HL.out] at e
  subst e
  have lg := FL.out.lt g rfl
  have FC : Hid (∀ i x, L[i]? = some x → w2.cell? ⟨g, i, none⟩ = some (.string x)) := fun i x hx => FL.out.cell hx
  have hcg : k + 1 ≤ cg := by have := ownS_cap FL.out; have := HL.out; omega
  have c0 := FC.out k x HX.out
  have ek : IntKind.i64.wrap ((k : Int) + 1 - 1) = (k : Int) := IntWalk.i64_in _ (by omega) |>.trans (by omega)
  have ek2 : IntKind.i64.wrap (k : Int) = (k : Int) := IntWalk.i64_in _ (by omega)
  have ct := cut_toS k (k + 1) cg (by omega) g
  clear FL CC CF hne
  cases hn : neB x
  · have hem := toList_eq_nil x hn
    have HN2 : Hid (lnN s = k) := by rw [HN.out, hn]; rfl
    have hLN : LS.length = k := by rw [lS]; exact HN2.out
    have HLN : Hid (LS.length = k) := hLN
    clear hn HN lS hLN HN2
    go_upto_region 10 with (refine store_new [.int .i64 0, .int .i64 0, .slice none 0 0] 26 _ _ (by kernel_rfl) (by kernel_rfl) (by kernel_rfl) rfl rfl rfl rfl ?_)
    clear hem c0
    obtain ⟨tb, htb⟩ : ∃ tb, tb = w2.heap.size := ⟨_, rfl⟩
    obtain ⟨W2, hW2⟩ : ∃ W2, W2 = w2.alloc (.cells #[.int .i64 0, .int .i64 0, .slice none 0 0] 26) := ⟨_, rfl⟩
    have FT : Hid (Blk W2 tb [.int .i64 0, .int .i64 0, .slice none 0 0]) := by rw [hW2]; exact Blk.at_ w2 #[.int .i64 0, .int .i64 0, .slice none 0 0] _ _ htb
    have lt1 : w.heap.size + 1 < tb := by rw [htb]; exact FR.out.lt
    have lgt : g < tb := by rw [htb]; exact lg.2
    have F0 : Hid (Blk W2 w.heap.size [.int .i64 h.fl, .int .i64 h.gp, .int .i64 h.ln, .int .i64 h.rf, .int .i64 h.sp, .int .i64 h.pu, .int .i64 h.br, .int .i64 h.dr, .int .i64 h.lv, .int .i64 h.dO, .int .i64 h.ld, .int .i64 h.qu]) := by rw [hW2]; exact F0.out.alloc _
    have FR : Hid (Blk W2 (w.heap.size + 1) [.int .i64 0, .int .i64 0, .slice none 0 0]) := by rw [hW2]; exact FR.out.alloc _
    have FB : Hid (Below w.heap.size w W2) := by rw [hW2]; exact FB.out.alloc FB.out.size _
    have FC : Hid (∀ (i : Nat) x, LS[i]? = some x → W2.cell? ⟨g, i, none⟩ = some (.string x)) := fun i x hx => by rw [hW2]; rw [World.cell?_alloc_lt _ _ ⟨g, i, none⟩ lg.2]; exact FC.out i x (HT.out i x hx)
    simp only [List.size_toArray, List.toArray, ← hW2, ← htb]
    clear hW2 htb ek ek2 ct lg HT
    go_wp2_with fail
    go_loopw [8] (fun ii wr => ∃ (i : Nat) (v : Value), ii = .int .i64 (i : Int) ∧ i ≤ k ∧ Below tb W2 wr ∧ Blk wr tb [.int .i64 0, .int .i64 0, v] ∧ OwnE wr (tb + 1) v (evsL (LS.take i)) ∧ (∀ (j : Nat) y, j < i → LS[j]? = some y → ∃ e, rdE (wordsS y) = some e)) (fun ii _ => k - (intOf ii).toNat)
    case atStart => exact ⟨0, _, rfl, by omega, Below.refl _ _, FT.out, ownE_nil _ _, fun j y hj => by omega⟩
    case round =>
      obtain ⟨i, v, rfl, hi, hb, ht, ho, hall⟩ := hrel
      obtain ⟨a, c, rfl, -⟩ := ho.pin
      have FO : Hid (OwnE wr (tb + 1) (.slice a (evsL (LS.take i)).length c) (evsL (LS.take i))) := ho
      have FT : Hid (Blk wr tb [.int .i64 0, .int .i64 0, .slice a (evsL (LS.take i)).length c]) := ht
      have F0 : Hid (Blk wr w.heap.size [.int .i64 h.fl, .int .i64 h.gp, .int .i64 h.ln, .int .i64 h.rf, .int .i64 h.sp, .int .i64 h.pu, .int .i64 h.br, .int .i64 h.dr, .int .i64 h.lv, .int .i64 h.dO, .int .i64 h.ld, .int .i64 h.qu]) := F0.out.below hb (by omega)
      have FR : Hid (Blk wr (w.heap.size + 1) [.int .i64 0, .int .i64 0, .slice none 0 0]) := FR.out.below hb (by omega)
      have FB : Hid (Below w.heap.size w wr) := FB.out.trans (hb.mono (by omega))
      have FW : Hid (Below tb W2 wr) := hb
      have HA : Hid (∀ (j : Nat) y, j < i → LS[j]? = some y → ∃ e, rdE (wordsS y) = some e) := hall
      have ltb := FT.out.lt
      clear ho ht hb hall
      by_cases hlt : i < k
      · obtain ⟨x, hx⟩ : ∃ x, LS[i]? = some x := ⟨_, List.getElem?_eq_getElem (by rw [HLN.out]; exact hlt)⟩
        have c0 := (FW.out.cell (p := ⟨g, i, none⟩) lgt).trans (FC.out i x hx)
        have hxs := HZ.out x (List.mem_of_getElem? hx)
        have CW := fun W => l9Words_any x hxs W
        have wl := words_len x
        have wz := words_size x
        have hli : (i : Int) < (k : Int) := by omega
        have hal : (evsL (LS.take i)).length ≤ i := Nat.le_trans (evsL_len _) (by rw [List.length_take]; omega)
        obtain ⟨WS, hWS⟩ : ∃ WS, wordsS x = WS := ⟨_, rfl⟩
        have CE := fun v B W => l10Read_own WS v B (by rw [← hWS]; omega) (fun y hy => Nat.le_trans (wz y (by rw [hWS]; exact hy)).1 hxs) W
        cases hr : rdE WS with
        | none =>
          rw [hr] at CE
          have HF : Hid (fb LS 0 = some i) := by have := fb_at LS 0 i x hx (by rw [hWS]; exact hr) HA.out; rwa [Nat.zero_add] at this
          rw [hWS] at CW
          have CE2 : ∀ v B W, OwS W B v WS → 0 < W.heap.size → Calls Tryz.prog 12 #[v] W fun e w' => (∃ q : Ev, e = .returned (.tuple #[.agg #[.int .i64 q.tk, .int .i64 q.kd, .int .i64 q.id, .int .i64 q.fl, .int .i64 q.tw], .bool false]) ∧ ∀ ev, (none : Option Ev) = some ev → q = ev) ∧ Below W.heap.size W w' := CE
          clear CE wz wl hx hWS hr HA FT FO FW
          go_upto_region 14 with (first | (go_at_call 13; refine (CW _).mono ?_; rintro e w3 ⟨v, rfl, hown, hb1⟩) | (go_at_call 12; refine (CE2 _ _ _ hown (Nat.lt_of_lt_of_le (Nat.lt_of_le_of_lt (Nat.zero_le _) ltb) hb1.size)).mono ?_; rintro e w4 ⟨⟨q, rfl, -⟩, hb2⟩; have hb := hb1.trans (hb2.mono hb1.size); have F0 : Hid (Blk w4 w.heap.size [.int .i64 h.fl, .int .i64 h.gp, .int .i64 h.ln, .int .i64 h.rf, .int .i64 h.sp, .int .i64 h.pu, .int .i64 h.br, .int .i64 h.dr, .int .i64 h.lv, .int .i64 h.dO, .int .i64 h.ld, .int .i64 h.qu]) := F0.out.below hb F0.out.lt; have FR : Hid (Blk w4 (w.heap.size + 1) [.int .i64 0, .int .i64 0, .slice none 0 0]) := FR.out.below hb FR.out.lt; have FB : Hid (Below w.heap.size w w4) := FB.out.trans (hb.mono FB.out.size); clear hb hb1 hb2 hown) | (refine store_new [.int .i64 q.tk, .int .i64 q.kd, .int .i64 q.id, .int .i64 q.fl, .int .i64 q.tw] 37 _ _ (by kernel_rfl) (by kernel_rfl) (by kernel_rfl) rfl rfl rfl rfl ?_))
          obtain ⟨W5, hW5⟩ : ∃ W5, W5 = w4.alloc (.cells #[.int .i64 q.tk, .int .i64 q.kd, .int .i64 q.id, .int .i64 q.fl, .int .i64 q.tw] 37) := ⟨_, rfl⟩
          have FR : Hid (Blk W5 (w.heap.size + 1) [.int .i64 0, .int .i64 0, .slice none 0 0]) := by rw [hW5]; exact FR.out.alloc _
          have FB : Hid (Below w.heap.size w W5) := by rw [hW5]; exact FB.out.alloc FB.out.size _
          simp only [List.size_toArray, List.toArray, ← hW5]
          clear hW5
          go_wp2_with (refine store_blk [.int .i64 5, .int .i64 (i : Int), .slice none 0 0] 26 _ _ (by kernel_rfl) (by kernel_rfl) (by kernel_rfl) FR.out rfl rfl rfl rfl ?_)
          rw [(HP5.out i HF.out).1, (HP5.out i HF.out).2.1, (HP5.out i HF.out).2.2]
          exact bodyPost_ret (v := .agg #[.int .i64 5, .int .i64 (i : Int), .slice none 0 0]) ((FR.out.row [.int .i64 5, .int .i64 (i : Int), .slice none 0 0]).res _ Tryz.results4 Tryz.underlying26 (by kernel_rfl) rfl) rfl ⟨_, rfl, ownE_nil _ _, below_row FB.out (by omega) _⟩
        | some ev =>
          rw [hr] at CE
          rw [hWS] at CW
          have HE : Hid (evsL (LS.take (i + 1)) = evsL (LS.take i) ++ [ev]) := evsL_snoc hx (by rw [hWS]; exact hr)
          have HA2 : Hid (∀ (j : Nat) y, j < i + 1 → LS[j]? = some y → ∃ e, rdE (wordsS y) = some e) := fun j y hj hy => by
            rcases Nat.lt_or_ge j i with c | c
            · exact HA.out j y c hy
            · obtain rfl : j = i := by omega
              rw [hx] at hy; cases hy; exact ⟨ev, by rw [hWS]; exact hr⟩
          have CE2 : ∀ v B W, OwS W B v WS → 0 < W.heap.size → Calls Tryz.prog 12 #[v] W fun e w' => (∃ q : Ev, e = .returned (.tuple #[.agg #[.int .i64 q.tk, .int .i64 q.kd, .int .i64 q.id, .int .i64 q.fl, .int .i64 q.tw], .bool true]) ∧ ∀ ev', some ev = some ev' → q = ev') ∧ Below W.heap.size W w' := CE
          obtain ⟨acc, hacc⟩ : ∃ acc, evsL (LS.take i) = acc := ⟨_, rfl⟩
          rw [hacc] at hal HE FO FT
          clear CE wz wl hx hWS hr hacc HA
          go_upto_region 14 with (first | (go_at_call 13; refine (CW _).mono ?_; rintro e w3 ⟨v, rfl, hown, hb1⟩) | (go_at_call 12; refine (CE2 _ _ _ hown (Nat.lt_of_lt_of_le (Nat.lt_of_le_of_lt (Nat.zero_le _) ltb) hb1.size)).mono ?_; rintro e w4 ⟨⟨q, rfl, hq⟩, hb2⟩; have hq := hq ev rfl; subst hq; have hb := hb1.trans (hb2.mono hb1.size); have FT : Hid (Blk w4 tb [.int .i64 0, .int .i64 0, .slice a acc.length c]) := FT.out.below hb ltb; have FO : Hid (OwnE w4 (tb + 1) (.slice a acc.length c) acc) := FO.out.below hb (fun k hk => (FO.out.lt k hk).2); have FW : Hid (Below tb W2 w4) := FW.out.trans (hb.mono (by omega)); clear hb hb1 hb2 hown) | (refine store_new [.int .i64 q.tk, .int .i64 q.kd, .int .i64 q.id, .int .i64 q.fl, .int .i64 q.tw] 37 _ _ (by kernel_rfl) (by kernel_rfl) (by kernel_rfl) rfl rfl rfl rfl ?_))
          obtain ⟨xb, hxb⟩ : ∃ xb, xb = w4.heap.size := ⟨_, rfl⟩
          obtain ⟨W5, hW5⟩ : ∃ W5, W5 = w4.alloc (.cells #[.int .i64 q.tk, .int .i64 q.kd, .int .i64 q.id, .int .i64 q.fl, .int .i64 q.tw] 37) := ⟨_, rfl⟩
          have l4 : tb < w4.heap.size := FT.out.lt
          have FX : Hid (Blk W5 xb [.int .i64 q.tk, .int .i64 q.kd, .int .i64 q.id, .int .i64 q.fl, .int .i64 q.tw]) := by rw [hW5]; exact Blk.at_ w4 #[.int .i64 q.tk, .int .i64 q.kd, .int .i64 q.id, .int .i64 q.fl, .int .i64 q.tw] _ _ hxb
          have FT : Hid (Blk W5 tb [.int .i64 0, .int .i64 0, .slice a acc.length c]) := by rw [hW5]; exact FT.out.alloc _
          have FO : Hid (OwnE W5 (tb + 1) (.slice a acc.length c) acc) := by rw [hW5]; exact FO.out.alloc _
          have FW : Hid (Below tb W2 W5) := by rw [hW5]; exact FW.out.alloc (by omega) _
          simp only [List.size_toArray, List.toArray, ← hW5, ← hxb]
          clear hW5 hxb
          have l5 : tb < W5.heap.size := FT.out.lt
          have y2 := FT.out.c 2 _ rfl
          obtain ⟨L1, hL1⟩ : ∃ L1, acc ++ [q] = L1 := ⟨_, rfl⟩
          rw [hL1] at HE
          go_wp2_with (first | (refine load_blk 37 _ Tryz.underlying37 (by kernel_rfl) FX.out rfl rfl rfl ?_) | (at_builtin; go_loud (refine wpE _ _ (tb + 1) (.slice a acc.length c) acc q _ (FO.out.alloc _) (vin_newq _ q) (by omega) (by simp; omega) rfl rfl rfl rfl ?_); intro v1 w6 ho hg2; rw [hL1] at ho; obtain ⟨a1, c1, rfl, -⟩ := ho.pin; have FO6 : Hid (OwnE w6 (tb + 1) (.slice a1 L1.length c1) L1) := ho; have B6 : Hid (Below (tb + 1) W5 w6) := ((Below.refl (tb + 1) W5).alloc (by omega) _).grown hg2 (by simp; omega) (fun j hj => (FO.out.lt j hj).1); have FT6 : Hid (Blk w6 tb [.int .i64 0, .int .i64 0, .slice a acc.length c]) := FT.out.below B6.out (by omega); have y2 := FT6.out.c 2 _ rfl; have f2 := FT6.out.f 2 (by simp); clear ho hg2))
          go_roundw
          case rel =>
            exact ⟨i + 1, .slice a1 L1.length c1, by simp, by omega, (FW.out.trans (B6.out.mono (by omega))).setCell (p := ⟨tb, 2, none⟩) (Nat.le_refl _) _, FT6.out.set (k := 2) (.slice a1 L1.length c1) (by simp), by rw [HE.out]; exact FO6.out.other (fun e => by have := (FO6.out.lt tb e).1; omega) _, HA2.out⟩
          case measure => simp [intOf]; omega
      · obtain rfl : k = i := by omega
        have hge : ¬ ((k : Int) < (k : Int)) := by omega
        have HF : Hid (fb LS 0 = none) := fb_none LS 0 fun j y hy => HA.out j y (by have := (List.getElem?_eq_some_iff.1 hy).1; have := HLN.out; omega) hy
        have et : LS.take k = LS := by rw [← HLN.out]; exact List.take_length
        have el := evsL_len LS
        rw [et] at FO FT
        have el2 : (evsL LS).length ≤ 3001 := by have := HLN.out; omega
        obtain ⟨es, hes⟩ : ∃ es, evsL LS = es := ⟨_, rfl⟩
        rw [hes] at FO FT el2
        obtain ⟨kt, hkt⟩ : ∃ kt, Hs.tr h es = kt := ⟨_, rfl⟩
        have CT := fun W q => specTrace_any h es a c (by omega) (ownE_cap FO.out) W q
        rw [hkt] at CT
        have HP : Hid (K = kt ∧ A = 0 ∧ V = if kt = 0 then es else []) := by have q := HP0.out HF.out; rw [hes, hkt] at q; exact q
        have y2 := FT.out.c 2 _ rfl
        clear HA hes hkt et el
        go_upto_region 18 with (first | (refine load_blk 28 _ Tryz.underlying28 (by kernel_rfl) F0.out rfl rfl rfl ?_) | (go_at_call 14; refine (CT _ (ownE_ein FO.out)).mono ?_; rintro e w6 ⟨rfl, hb⟩; have FT : Hid (Blk w6 tb [.int .i64 0, .int .i64 0, .slice a es.length c]) := FT.out.below hb FT.out.lt; have FO : Hid (OwnE w6 (tb + 1) (.slice a es.length c) es) := FO.out.below hb (fun k hk => (FO.out.lt k hk).2); have F0 : Hid (Blk w6 w.heap.size [.int .i64 h.fl, .int .i64 h.gp, .int .i64 h.ln, .int .i64 h.rf, .int .i64 h.sp, .int .i64 h.pu, .int .i64 h.br, .int .i64 h.dr, .int .i64 h.lv, .int .i64 h.dO, .int .i64 h.ld, .int .i64 h.qu]) := F0.out.below hb F0.out.lt; have FR : Hid (Blk w6 (w.heap.size + 1) [.int .i64 0, .int .i64 0, .slice none 0 0]) := FR.out.below hb FR.out.lt; have FB : Hid (Below w.heap.size w w6) := FB.out.trans (hb.mono FB.out.size); clear hb))
        by_cases hk0 : kt = 0
        · subst hk0
          go_wp2_with (first | (refine load_blk 26 _ Tryz.underlying26 (by kernel_rfl) FT.out rfl rfl rfl ?_) | (refine store_blk [.int .i64 0, .int .i64 0, .slice a es.length c] 26 _ _ (by kernel_rfl) (by kernel_rfl) (by kernel_rfl) FR.out rfl rfl rfl rfl ?_))
          have FO2 : OwnE (w6.setRow (w.heap.size + 1) #[.int .i64 0, .int .i64 0, .slice a es.length c]) w.heap.size (.slice a es.length c) es := ownE_base (ownE_row FO.out (by omega) _) (by omega)
          rw [HP.out.1, HP.out.2.1, HP.out.2.2]
          exact bodyPost_ret (v := .agg #[.int .i64 0, .int .i64 0, .slice a es.length c]) ((FR.out.row [.int .i64 0, .int .i64 0, .slice a es.length c]).res _ Tryz.results4 Tryz.underlying26 (by kernel_rfl) rfl) rfl ⟨_, rfl, by simpa using FO2, below_row FB.out (by omega) _⟩
        · have hkb : (kt == 0) = false := by simpa using hk0
          go_wp2_with (refine store_blk [.int .i64 kt, .int .i64 0, .slice none 0 0] 26 _ _ (by kernel_rfl) (by kernel_rfl) (by kernel_rfl) FR.out rfl rfl rfl rfl ?_)
          rw [HP.out.1, HP.out.2.1, HP.out.2.2]
          exact bodyPost_ret (v := .agg #[.int .i64 kt, .int .i64 0, .slice none 0 0]) ((FR.out.row [.int .i64 kt, .int .i64 0, .slice none 0 0]).res _ Tryz.results4 Tryz.underlying26 (by kernel_rfl) rfl) rfl ⟨_, rfl, by first | exact ownE_nil _ _ | (rw [if_neg hk0]; exact ownE_nil _ _), below_row FB.out (by omega) _⟩
  · have hem := toList_neq_nil x hn
    have hem2 : (x.toList == []) = false := by simpa using hem
    have hem3 : x.toList.isEmpty = false := by simpa using hem
    have HN2 : Hid (lnN s = k + 1) := by rw [HN.out, hn]; rfl
    have hLN : LS.length = (k + 1) := by rw [lS]; exact HN2.out
    have HLN : Hid (LS.length = (k + 1)) := hLN
    clear hn HN lS hLN HN2
    go_upto_region 10 with (refine store_new [.int .i64 0, .int .i64 0, .slice none 0 0] 26 _ _ (by kernel_rfl) (by kernel_rfl) (by kernel_rfl) rfl rfl rfl rfl ?_)
    clear hem c0
    obtain ⟨tb, htb⟩ : ∃ tb, tb = w2.heap.size := ⟨_, rfl⟩
    obtain ⟨W2, hW2⟩ : ∃ W2, W2 = w2.alloc (.cells #[.int .i64 0, .int .i64 0, .slice none 0 0] 26) := ⟨_, rfl⟩
    have FT : Hid (Blk W2 tb [.int .i64 0, .int .i64 0, .slice none 0 0]) := by rw [hW2]; exact Blk.at_ w2 #[.int .i64 0, .int .i64 0, .slice none 0 0] _ _ htb
    have lt1 : w.heap.size + 1 < tb := by rw [htb]; exact FR.out.lt
    have lgt : g < tb := by rw [htb]; exact lg.2
    have F0 : Hid (Blk W2 w.heap.size [.int .i64 h.fl, .int .i64 h.gp, .int .i64 h.ln, .int .i64 h.rf, .int .i64 h.sp, .int .i64 h.pu, .int .i64 h.br, .int .i64 h.dr, .int .i64 h.lv, .int .i64 h.dO, .int .i64 h.ld, .int .i64 h.qu]) := by rw [hW2]; exact F0.out.alloc _
    have FR : Hid (Blk W2 (w.heap.size + 1) [.int .i64 0, .int .i64 0, .slice none 0 0]) := by rw [hW2]; exact FR.out.alloc _
    have FB : Hid (Below w.heap.size w W2) := by rw [hW2]; exact FB.out.alloc FB.out.size _
    have FC : Hid (∀ (i : Nat) x, LS[i]? = some x → W2.cell? ⟨g, i, none⟩ = some (.string x)) := fun i x hx => by rw [hW2]; rw [World.cell?_alloc_lt _ _ ⟨g, i, none⟩ lg.2]; exact FC.out i x (HT.out i x hx)
    simp only [List.size_toArray, List.toArray, ← hW2, ← htb]
    clear hW2 htb ek ek2 ct lg HT
    go_wp2_with fail
    go_loopw [8] (fun ii wr => ∃ (i : Nat) (v : Value), ii = .int .i64 (i : Int) ∧ i ≤ (k + 1) ∧ Below tb W2 wr ∧ Blk wr tb [.int .i64 0, .int .i64 0, v] ∧ OwnE wr (tb + 1) v (evsL (LS.take i)) ∧ (∀ (j : Nat) y, j < i → LS[j]? = some y → ∃ e, rdE (wordsS y) = some e)) (fun ii _ => (k + 1) - (intOf ii).toNat)
    case atStart => exact ⟨0, _, rfl, by omega, Below.refl _ _, FT.out, ownE_nil _ _, fun j y hj => by omega⟩
    case round =>
      obtain ⟨i, v, rfl, hi, hb, ht, ho, hall⟩ := hrel
      obtain ⟨a, c, rfl, -⟩ := ho.pin
      have FO : Hid (OwnE wr (tb + 1) (.slice a (evsL (LS.take i)).length c) (evsL (LS.take i))) := ho
      have FT : Hid (Blk wr tb [.int .i64 0, .int .i64 0, .slice a (evsL (LS.take i)).length c]) := ht
      have F0 : Hid (Blk wr w.heap.size [.int .i64 h.fl, .int .i64 h.gp, .int .i64 h.ln, .int .i64 h.rf, .int .i64 h.sp, .int .i64 h.pu, .int .i64 h.br, .int .i64 h.dr, .int .i64 h.lv, .int .i64 h.dO, .int .i64 h.ld, .int .i64 h.qu]) := F0.out.below hb (by omega)
      have FR : Hid (Blk wr (w.heap.size + 1) [.int .i64 0, .int .i64 0, .slice none 0 0]) := FR.out.below hb (by omega)
      have FB : Hid (Below w.heap.size w wr) := FB.out.trans (hb.mono (by omega))
      have FW : Hid (Below tb W2 wr) := hb
      have HA : Hid (∀ (j : Nat) y, j < i → LS[j]? = some y → ∃ e, rdE (wordsS y) = some e) := hall
      have ltb := FT.out.lt
      clear ho ht hb hall
      by_cases hlt : i < (k + 1)
      · obtain ⟨x, hx⟩ : ∃ x, LS[i]? = some x := ⟨_, List.getElem?_eq_getElem (by rw [HLN.out]; exact hlt)⟩
        have c0 := (FW.out.cell (p := ⟨g, i, none⟩) lgt).trans (FC.out i x hx)
        have hxs := HZ.out x (List.mem_of_getElem? hx)
        have CW := fun W => l9Words_any x hxs W
        have wl := words_len x
        have wz := words_size x
        have hli : (i : Int) < ((k : Int) + 1) := by omega
        have hal : (evsL (LS.take i)).length ≤ i := Nat.le_trans (evsL_len _) (by rw [List.length_take]; omega)
        obtain ⟨WS, hWS⟩ : ∃ WS, wordsS x = WS := ⟨_, rfl⟩
        have CE := fun v B W => l10Read_own WS v B (by rw [← hWS]; omega) (fun y hy => Nat.le_trans (wz y (by rw [hWS]; exact hy)).1 hxs) W
        cases hr : rdE WS with
        | none =>
          rw [hr] at CE
          have HF : Hid (fb LS 0 = some i) := by have := fb_at LS 0 i x hx (by rw [hWS]; exact hr) HA.out; rwa [Nat.zero_add] at this
          rw [hWS] at CW
          have CE2 : ∀ v B W, OwS W B v WS → 0 < W.heap.size → Calls Tryz.prog 12 #[v] W fun e w' => (∃ q : Ev, e = .returned (.tuple #[.agg #[.int .i64 q.tk, .int .i64 q.kd, .int .i64 q.id, .int .i64 q.fl, .int .i64 q.tw], .bool false]) ∧ ∀ ev, (none : Option Ev) = some ev → q = ev) ∧ Below W.heap.size W w' := CE
          clear CE wz wl hx hWS hr HA FT FO FW
          go_upto_region 14 with (first | (go_at_call 13; refine (CW _).mono ?_; rintro e w3 ⟨v, rfl, hown, hb1⟩) | (go_at_call 12; refine (CE2 _ _ _ hown (Nat.lt_of_lt_of_le (Nat.lt_of_le_of_lt (Nat.zero_le _) ltb) hb1.size)).mono ?_; rintro e w4 ⟨⟨q, rfl, -⟩, hb2⟩; have hb := hb1.trans (hb2.mono hb1.size); have F0 : Hid (Blk w4 w.heap.size [.int .i64 h.fl, .int .i64 h.gp, .int .i64 h.ln, .int .i64 h.rf, .int .i64 h.sp, .int .i64 h.pu, .int .i64 h.br, .int .i64 h.dr, .int .i64 h.lv, .int .i64 h.dO, .int .i64 h.ld, .int .i64 h.qu]) := F0.out.below hb F0.out.lt; have FR : Hid (Blk w4 (w.heap.size + 1) [.int .i64 0, .int .i64 0, .slice none 0 0]) := FR.out.below hb FR.out.lt; have FB : Hid (Below w.heap.size w w4) := FB.out.trans (hb.mono FB.out.size); clear hb hb1 hb2 hown) | (refine store_new [.int .i64 q.tk, .int .i64 q.kd, .int .i64 q.id, .int .i64 q.fl, .int .i64 q.tw] 37 _ _ (by kernel_rfl) (by kernel_rfl) (by kernel_rfl) rfl rfl rfl rfl ?_))
          obtain ⟨W5, hW5⟩ : ∃ W5, W5 = w4.alloc (.cells #[.int .i64 q.tk, .int .i64 q.kd, .int .i64 q.id, .int .i64 q.fl, .int .i64 q.tw] 37) := ⟨_, rfl⟩
          have FR : Hid (Blk W5 (w.heap.size + 1) [.int .i64 0, .int .i64 0, .slice none 0 0]) := by rw [hW5]; exact FR.out.alloc _
          have FB : Hid (Below w.heap.size w W5) := by rw [hW5]; exact FB.out.alloc FB.out.size _
          simp only [List.size_toArray, List.toArray, ← hW5]
          clear hW5
          go_wp2_with (refine store_blk [.int .i64 5, .int .i64 (i : Int), .slice none 0 0] 26 _ _ (by kernel_rfl) (by kernel_rfl) (by kernel_rfl) FR.out rfl rfl rfl rfl ?_)
          rw [(HP5.out i HF.out).1, (HP5.out i HF.out).2.1, (HP5.out i HF.out).2.2]
          exact bodyPost_ret (v := .agg #[.int .i64 5, .int .i64 (i : Int), .slice none 0 0]) ((FR.out.row [.int .i64 5, .int .i64 (i : Int), .slice none 0 0]).res _ Tryz.results4 Tryz.underlying26 (by kernel_rfl) rfl) rfl ⟨_, rfl, ownE_nil _ _, below_row FB.out (by omega) _⟩
        | some ev =>
          rw [hr] at CE
          rw [hWS] at CW
          have HE : Hid (evsL (LS.take (i + 1)) = evsL (LS.take i) ++ [ev]) := evsL_snoc hx (by rw [hWS]; exact hr)
          have HA2 : Hid (∀ (j : Nat) y, j < i + 1 → LS[j]? = some y → ∃ e, rdE (wordsS y) = some e) := fun j y hj hy => by
            rcases Nat.lt_or_ge j i with c | c
            · exact HA.out j y c hy
            · obtain rfl : j = i := by omega
              rw [hx] at hy; cases hy; exact ⟨ev, by rw [hWS]; exact hr⟩
          have CE2 : ∀ v B W, OwS W B v WS → 0 < W.heap.size → Calls Tryz.prog 12 #[v] W fun e w' => (∃ q : Ev, e = .returned (.tuple #[.agg #[.int .i64 q.tk, .int .i64 q.kd, .int .i64 q.id, .int .i64 q.fl, .int .i64 q.tw], .bool true]) ∧ ∀ ev', some ev = some ev' → q = ev') ∧ Below W.heap.size W w' := CE
          obtain ⟨acc, hacc⟩ : ∃ acc, evsL (LS.take i) = acc := ⟨_, rfl⟩
          rw [hacc] at hal HE FO FT
          clear CE wz wl hx hWS hr hacc HA
          go_upto_region 14 with (first | (go_at_call 13; refine (CW _).mono ?_; rintro e w3 ⟨v, rfl, hown, hb1⟩) | (go_at_call 12; refine (CE2 _ _ _ hown (Nat.lt_of_lt_of_le (Nat.lt_of_le_of_lt (Nat.zero_le _) ltb) hb1.size)).mono ?_; rintro e w4 ⟨⟨q, rfl, hq⟩, hb2⟩; have hq := hq ev rfl; subst hq; have hb := hb1.trans (hb2.mono hb1.size); have FT : Hid (Blk w4 tb [.int .i64 0, .int .i64 0, .slice a acc.length c]) := FT.out.below hb ltb; have FO : Hid (OwnE w4 (tb + 1) (.slice a acc.length c) acc) := FO.out.below hb (fun k hk => (FO.out.lt k hk).2); have FW : Hid (Below tb W2 w4) := FW.out.trans (hb.mono (by omega)); clear hb hb1 hb2 hown) | (refine store_new [.int .i64 q.tk, .int .i64 q.kd, .int .i64 q.id, .int .i64 q.fl, .int .i64 q.tw] 37 _ _ (by kernel_rfl) (by kernel_rfl) (by kernel_rfl) rfl rfl rfl rfl ?_))
          obtain ⟨xb, hxb⟩ : ∃ xb, xb = w4.heap.size := ⟨_, rfl⟩
          obtain ⟨W5, hW5⟩ : ∃ W5, W5 = w4.alloc (.cells #[.int .i64 q.tk, .int .i64 q.kd, .int .i64 q.id, .int .i64 q.fl, .int .i64 q.tw] 37) := ⟨_, rfl⟩
          have l4 : tb < w4.heap.size := FT.out.lt
          have FX : Hid (Blk W5 xb [.int .i64 q.tk, .int .i64 q.kd, .int .i64 q.id, .int .i64 q.fl, .int .i64 q.tw]) := by rw [hW5]; exact Blk.at_ w4 #[.int .i64 q.tk, .int .i64 q.kd, .int .i64 q.id, .int .i64 q.fl, .int .i64 q.tw] _ _ hxb
          have FT : Hid (Blk W5 tb [.int .i64 0, .int .i64 0, .slice a acc.length c]) := by rw [hW5]; exact FT.out.alloc _
          have FO : Hid (OwnE W5 (tb + 1) (.slice a acc.length c) acc) := by rw [hW5]; exact FO.out.alloc _
          have FW : Hid (Below tb W2 W5) := by rw [hW5]; exact FW.out.alloc (by omega) _
          simp only [List.size_toArray, List.toArray, ← hW5, ← hxb]
          clear hW5 hxb
          have l5 : tb < W5.heap.size := FT.out.lt
          have y2 := FT.out.c 2 _ rfl
          obtain ⟨L1, hL1⟩ : ∃ L1, acc ++ [q] = L1 := ⟨_, rfl⟩
          rw [hL1] at HE
          go_wp2_with (first | (refine load_blk 37 _ Tryz.underlying37 (by kernel_rfl) FX.out rfl rfl rfl ?_) | (at_builtin; go_loud (refine wpE _ _ (tb + 1) (.slice a acc.length c) acc q _ (FO.out.alloc _) (vin_newq _ q) (by omega) (by simp; omega) rfl rfl rfl rfl ?_); intro v1 w6 ho hg2; rw [hL1] at ho; obtain ⟨a1, c1, rfl, -⟩ := ho.pin; have FO6 : Hid (OwnE w6 (tb + 1) (.slice a1 L1.length c1) L1) := ho; have B6 : Hid (Below (tb + 1) W5 w6) := ((Below.refl (tb + 1) W5).alloc (by omega) _).grown hg2 (by simp; omega) (fun j hj => (FO.out.lt j hj).1); have FT6 : Hid (Blk w6 tb [.int .i64 0, .int .i64 0, .slice a acc.length c]) := FT.out.below B6.out (by omega); have y2 := FT6.out.c 2 _ rfl; have f2 := FT6.out.f 2 (by simp); clear ho hg2))
          go_roundw
          case rel =>
            exact ⟨i + 1, .slice a1 L1.length c1, by simp, by omega, (FW.out.trans (B6.out.mono (by omega))).setCell (p := ⟨tb, 2, none⟩) (Nat.le_refl _) _, FT6.out.set (k := 2) (.slice a1 L1.length c1) (by simp), by rw [HE.out]; exact FO6.out.other (fun e => by have := (FO6.out.lt tb e).1; omega) _, HA2.out⟩
          case measure => simp [intOf]; omega
      · obtain rfl : (k + 1) = i := by omega
        have hge : ¬ (((k : Int) + 1) < ((k : Int) + 1)) := by omega
        have HF : Hid (fb LS 0 = none) := fb_none LS 0 fun j y hy => HA.out j y (by have := (List.getElem?_eq_some_iff.1 hy).1; have := HLN.out; omega) hy
        have et : LS.take (k + 1) = LS := by rw [← HLN.out]; exact List.take_length
        have el := evsL_len LS
        rw [et] at FO FT
        have el2 : (evsL LS).length ≤ 3001 := by have := HLN.out; omega
        obtain ⟨es, hes⟩ : ∃ es, evsL LS = es := ⟨_, rfl⟩
        rw [hes] at FO FT el2
        obtain ⟨kt, hkt⟩ : ∃ kt, Hs.tr h es = kt := ⟨_, rfl⟩
        have CT := fun W q => specTrace_any h es a c (by omega) (ownE_cap FO.out) W q
        rw [hkt] at CT
        have HP : Hid (K = kt ∧ A = 0 ∧ V = if kt = 0 then es else []) := by have q := HP0.out HF.out; rw [hes, hkt] at q; exact q
        have y2 := FT.out.c 2 _ rfl
        clear HA hes hkt et el
        go_upto_region 18 with (first | (refine load_blk 28 _ Tryz.underlying28 (by kernel_rfl) F0.out rfl rfl rfl ?_) | (go_at_call 14; refine (CT _ (ownE_ein FO.out)).mono ?_; rintro e w6 ⟨rfl, hb⟩; have FT : Hid (Blk w6 tb [.int .i64 0, .int .i64 0, .slice a es.length c]) := FT.out.below hb FT.out.lt; have FO : Hid (OwnE w6 (tb + 1) (.slice a es.length c) es) := FO.out.below hb (fun k hk => (FO.out.lt k hk).2); have F0 : Hid (Blk w6 w.heap.size [.int .i64 h.fl, .int .i64 h.gp, .int .i64 h.ln, .int .i64 h.rf, .int .i64 h.sp, .int .i64 h.pu, .int .i64 h.br, .int .i64 h.dr, .int .i64 h.lv, .int .i64 h.dO, .int .i64 h.ld, .int .i64 h.qu]) := F0.out.below hb F0.out.lt; have FR : Hid (Blk w6 (w.heap.size + 1) [.int .i64 0, .int .i64 0, .slice none 0 0]) := FR.out.below hb FR.out.lt; have FB : Hid (Below w.heap.size w w6) := FB.out.trans (hb.mono FB.out.size); clear hb))
        by_cases hk0 : kt = 0
        · subst hk0
          go_wp2_with (first | (refine load_blk 26 _ Tryz.underlying26 (by kernel_rfl) FT.out rfl rfl rfl ?_) | (refine store_blk [.int .i64 0, .int .i64 0, .slice a es.length c] 26 _ _ (by kernel_rfl) (by kernel_rfl) (by kernel_rfl) FR.out rfl rfl rfl rfl ?_))
          have FO2 : OwnE (w6.setRow (w.heap.size + 1) #[.int .i64 0, .int .i64 0, .slice a es.length c]) w.heap.size (.slice a es.length c) es := ownE_base (ownE_row FO.out (by omega) _) (by omega)
          rw [HP.out.1, HP.out.2.1, HP.out.2.2]
          exact bodyPost_ret (v := .agg #[.int .i64 0, .int .i64 0, .slice a es.length c]) ((FR.out.row [.int .i64 0, .int .i64 0, .slice a es.length c]).res _ Tryz.results4 Tryz.underlying26 (by kernel_rfl) rfl) rfl ⟨_, rfl, by simpa using FO2, below_row FB.out (by omega) _⟩
        · have hkb : (kt == 0) = false := by simpa using hk0
          go_wp2_with (refine store_blk [.int .i64 kt, .int .i64 0, .slice none 0 0] 26 _ _ (by kernel_rfl) (by kernel_rfl) (by kernel_rfl) FR.out rfl rfl rfl rfl ?_)
          rw [HP.out.1, HP.out.2.1, HP.out.2.2]
          exact bodyPost_ret (v := .agg #[.int .i64 kt, .int .i64 0, .slice none 0 0]) ((FR.out.row [.int .i64 kt, .int .i64 0, .slice none 0 0]).res _ Tryz.results4 Tryz.underlying26 (by kernel_rfl) rfl) rfl ⟨_, rfl, by first | exact ownE_nil _ _ | (rw [if_neg hk0]; exact ownE_nil _ _), below_row FB.out (by omega) _⟩
end Go.Proofs.YtonmocgoelkofaaGreatDoor
