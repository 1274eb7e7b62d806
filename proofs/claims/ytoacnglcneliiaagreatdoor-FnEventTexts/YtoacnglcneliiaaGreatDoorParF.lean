/-
  The program reads the lines: events, or the first line that tells none.
-/
import Derived.Test.YtoacnglcneliiaaGreatDoorParE
namespace Go.Proofs.YtoacnglcneliiaaGreatDoor
open Go.RowKit Go.Shelf Pl
set_option linter.unusedSimpArgs false
set_option linter.unusedVariables false

theorem ownE_base {w : World} {B C : Nat} {v : Value} {l : List Ev} (h : OwnE w B v l) (hC : C ≤ B) : OwnE w C v l := by
  refine ⟨h.1, ?_⟩
  rcases h.2 with hn | ⟨g, cap, cur, e, hB, rest⟩
  · exact Or.inl hn
  · exact Or.inr ⟨g, cap, cur, e, Nat.le_trans hC hB, rest⟩
theorem ownE_nil (w : World) (B : Nat) : OwnE w B (.slice none 0 0) [] := World.ownsRow_nil w B 34 5
theorem vin_newq (w : World) (e : Ev) : VIn (w.alloc (.cells #[.int .i64 e.tk, .int .i64 e.kd, .int .i64 e.id, .int .i64 e.fl, .int .i64 e.tw] 34)) (.slice (some ⟨w.heap.size, 0, none⟩) 1 1) [e] := by
  refine Or.inr ⟨_, _, rfl, fun _ => ⟨w.heap.size, 0, rfl, fun i p hp => ?_⟩⟩
  cases i with
  | zero =>
    simp at hp
    subst hp
    constructor <;> simp
  | succ i => simp at hp
/-- 'append' of events to a row of one's own that may be long. -/
theorem wpE {ops : Array Oper} {rest : List Oper} {o : Oper} {w : World} {a : Act} {Q : Exit → Act → World → Prop} (s x : Operand) (B : Nat) (v : Value) (l : List Ev) (y : Ev) (b : Nat)
    (hown : OwnE w B v l) (hvx : VIn w (.slice (some ⟨b, 0, none⟩) 1 1) [y]) (hlen : l.length ≤ 1100000) (hB : B ≤ w.heap.size)
    (hgd : o.guard = none) (ho : o.op = .call { callee := .builtin .append, args := #[s, x], argTypes := #[26, 26] }) (hs : a.eval s = v) (hx : a.eval x = .slice (some ⟨b, 0, none⟩) 1 1)
    (h : ∀ v' w', OwnE w' B v' (l ++ [y]) → w.grownBy w' v.ownBlock → wpList Tryz.prog ops Q rest (a.put o.dst v') w') :
    wpList Tryz.prog ops Q (o :: rest) a w := by
  obtain ⟨i, hi, hz, hsz, hby⟩ := info_parts infoEV
  rcases hvx with ⟨e, _⟩ | ⟨ad, c, e, hm⟩
  · cases e
  · simp only [Value.slice.injEq, Option.some.injEq] at e
    obtain ⟨rfl, _, rfl⟩ := e
    obtain ⟨b', o', e', h7⟩ := hm (by simp)
    have hnews : ∀ j u, (flatE [y])[j]? = some u → w.cell? ((⟨b, 0, none⟩ : Addr).add j) = some u := by rw [e']; exact newsE_at h7
    refine wpList_append_own (P := Tryz.prog) (w := w) hgd s x 26 ho B 34 i (.agg (cellsE zeroE).toArray) 5 40 undEVS hi hz hsz hby rfl (by omega) v l.length (flatE l) hs hown ⟨b, 0, none⟩ 1 1 (flatE [y]) hx (flatE_length [y]) hnews (flatE_one [y]) (by unfold maxLen; omega) (by omega) hB ?_
    intro v' w' ho' hg hn
    exact h v' w' (by unfold OwnE; rw [List.length_append, flatE_append]; exact ho') hg
/-- The first line that tells no event; the events. -/
def fb : List ByteArray → Nat → Option Nat
  | [], _ => none
  | x :: t, i => if (rdE (wordsS x)).isSome = true then fb t (i + 1) else some i
def evsL (L : List ByteArray) : List Ev := L.filterMap fun x => rdE (wordsS x)
theorem fb_at : ∀ (L : List ByteArray) (k i : Nat) (x : ByteArray), L[i]? = some x → rdE (wordsS x) = none → (∀ (j : Nat) y, j < i → L[j]? = some y → ∃ e, rdE (wordsS y) = some e) → fb L k = some (k + i)
  | [], k, i, x, h, _, _ => by simp at h
  | z :: t, k, 0, x, h, hn, _ => by
    simp at h
    subst h
    unfold fb
    rw [hn]
    rfl
  | z :: t, k, i + 1, x, h, hn, hb => by
    obtain ⟨e, he⟩ := hb 0 z (by omega) rfl
    unfold fb
    rw [he]
    simp only [Option.isSome_some, if_true]
    rw [fb_at t (k + 1) i x (by simpa using h) hn (fun j y hj hy => hb (j + 1) y (by omega) (by simpa using hy))]
    congr 1
    omega
theorem fb_none : ∀ (L : List ByteArray) (k : Nat), (∀ (j : Nat) y, L[j]? = some y → ∃ e, rdE (wordsS y) = some e) → fb L k = none
  | [], _, _ => rfl
  | z :: t, k, hb => by
    obtain ⟨e, he⟩ := hb 0 z rfl
    unfold fb
    rw [he]
    simp only [Option.isSome_some, if_true]
    exact fb_none t (k + 1) (fun j y hy => hb (j + 1) y (by simpa using hy))
theorem evsL_snoc {L : List ByteArray} {i : Nat} {x : ByteArray} {e : Ev} (h : L[i]? = some x) (he : rdE (wordsS x) = some e) : evsL (L.take (i + 1)) = evsL (L.take i) ++ [e] := by
  unfold evsL
  rw [List.take_add_one, h, List.filterMap_append]
  simp [he]
theorem evsL_len (L : List ByteArray) : (evsL L).length ≤ L.length := List.length_filterMap_le _ _
/-- The error of a text: the line that could not be read. -/
def leO (eu : Value) : Option Nat → Value
  | none => .nilIface
  | some i => .iface 50 (.agg #[.int .i64 (i : Int), eu])
set_option maxRecDepth 20000 in
set_option maxHeartbeats 16000000 in
theorem eventsIn_any (L : List ByteArray) (g cap : Nat) (eu : Value) (hl : L.length ≤ 1048577) (hsz : ∀ x ∈ L, x.size ≤ 1048576) (w : World) (hg : g < w.heap.size) (hc : ∀ i x, L[i]? = some x → w.cell? ⟨g, i, none⟩ = some (.string x)) (hV : Vr w eu) :
    Calls Tryz.prog 18 #[.slice (some ⟨g, 0, none⟩) L.length cap] w fun e w' => ∃ v, e = .returned (.tuple #[v, leO eu (fb L 0)]) ∧ (fb L 0 = none → OwnE w' w.heap.size v (evsL L)) ∧ Below w.heap.size w w' := by
  have HC : Hid (∀ i x, L[i]? = some x → w.cell? ⟨g, i, none⟩ = some (.string x)) := hc
  have HV : Hid (Vr w eu) := hV
  obtain ⟨te, pe, rfl⟩ := hV.iu
  clear hc hV
  go_enter Tryz.func18, Tryz.ntmps18
  go_wp2_with fail
  go_loopw [4, 11] (fun vv ii wr => ∃ (i : Nat) (v : Value), vv = v ∧ ii = .int .i64 (i : Int) ∧ i ≤ L.length ∧ OwnE wr w.heap.size v (evsL (L.take i)) ∧ (∀ (j : Nat) y, j < i → L[j]? = some y → ∃ e, rdE (wordsS y) = some e) ∧ Below w.heap.size w wr) (fun _ ii _ => L.length - (intOf ii).toNat)
  case atStart => exact ⟨0, _, rfl, rfl, by omega, ownE_nil w _, fun j y hj => by omega, Below.refl _ _⟩
  case round =>
    obtain ⟨i, v, hvv, rfl, hi, ho, hall, hb⟩ := hrel
    have hvv' := hvv.symm
    subst hvv'
    have FO : Hid (OwnE wr w.heap.size v (evsL (L.take i))) := ho
    have FB : Hid (Below w.heap.size w wr) := hb
    have HA : Hid (∀ (j : Nat) y, j < i → L[j]? = some y → ∃ e, rdE (wordsS y) = some e) := hall
    have lsz := FB.out.size
    clear ho hb hall
    by_cases hlt : i < L.length
    · obtain ⟨x, hx⟩ : ∃ x, L[i]? = some x := ⟨_, List.getElem?_eq_getElem hlt⟩
      have c0 := (FB.out.cell (p := ⟨g, i, none⟩) hg).trans (HC.out i x hx)
      have hxs := hsz x (List.mem_of_getElem? hx)
      have CW := fun W => wordsIn_any x hxs W
      have wl := words_len x
      have wz := words_size x
      have hli : (i : Int) < L.length := by omega
      have hal : (evsL (L.take i)).length ≤ i := Nat.le_trans (evsL_len _) (by rw [List.length_take]; omega)
      obtain ⟨WS, hWS⟩ : ∃ WS, wordsS x = WS := ⟨_, rfl⟩
      have CE := fun A W => eventIn_any WS A wr.heap.size (.iface te pe) (by rw [← hWS]; omega) (fun y hy => Nat.le_trans (wz y (by rw [hWS]; exact hy)).1 hxs) W
      cases hr : rdE WS with
      | none =>
        rw [hr] at CE
        have HF : Hid (fb L 0 = some i) := by have := fb_at L 0 i x hx (by rw [hWS]; exact hr) HA.out; rwa [Nat.zero_add] at this
        rw [hWS] at CW
        have CE2 : ∀ A W, OwS W wr.heap.size (.slice (some ⟨A, 0, none⟩) WS.length WS.length) WS → (∀ W', Below wr.heap.size W W' → Vr W' (.iface te pe)) → Calls Tryz.prog 37 #[.slice (some ⟨A, 0, none⟩) WS.length WS.length] W fun e w' => e = .returned (.tuple #[.agg #[.int .i64 0, .int .i64 0, .int .i64 0, .int .i64 0, .int .i64 0], .iface te pe]) ∧ Below wr.heap.size W w' := CE
        clear CE wz wl hx hWS hr
        go_upto_region 6 with (first | (go_at_call 38; refine (CW _).mono ?_; rintro e w1 ⟨A, rfl, hown, hb1⟩) | (go_at_call 37; refine (CE2 _ _ hown (fun W' hW' => (HV.out.below FB.out (Nat.le_refl _)).below (hb1.trans hW') (Nat.le_refl _))).mono ?_; rintro e w2 ⟨rfl, hb2⟩; have FB : Hid (Below w.heap.size w w2) := FB.out.trans ((hb1.trans hb2).mono FB.out.size)) | (refine store_new [.int .i64 0, .int .i64 0, .int .i64 0, .int .i64 0, .int .i64 0] 34 _ _ (by kernel_rfl) (by kernel_rfl) (by kernel_rfl) rfl rfl rfl rfl ?_))
        go_wp2_with fail
        go_ret2
        rw [HF.out]
        exact ⟨_, rfl, fun h => by (cases h), FB.out.alloc FB.out.size _⟩
      | some ev =>
        rw [hr] at CE
        rw [hWS] at CW
        have HE : Hid (evsL (L.take (i + 1)) = evsL (L.take i) ++ [ev]) := evsL_snoc hx (by rw [hWS]; exact hr)
        have HA2 : Hid (∀ (j : Nat) y, j < i + 1 → L[j]? = some y → ∃ e, rdE (wordsS y) = some e) := fun j y hj hy => by
          rcases Nat.lt_or_ge j i with c | c
          · exact HA.out j y c hy
          · obtain rfl : j = i := by omega
            rw [hx] at hy; cases hy; exact ⟨ev, by rw [hWS]; exact hr⟩
        have CE2 : ∀ A W, OwS W wr.heap.size (.slice (some ⟨A, 0, none⟩) WS.length WS.length) WS → (∀ W', Below wr.heap.size W W' → Vr W' (.iface te pe)) → Calls Tryz.prog 37 #[.slice (some ⟨A, 0, none⟩) WS.length WS.length] W fun e w' => e = .returned (.tuple #[.agg #[.int .i64 ev.tk, .int .i64 ev.kd, .int .i64 ev.id, .int .i64 ev.fl, .int .i64 ev.tw], .nilIface]) ∧ Below wr.heap.size W w' := CE
        obtain ⟨acc, hacc⟩ : ∃ acc, evsL (L.take i) = acc := ⟨_, rfl⟩
        rw [hacc] at hal HE FO
        clear CE wz wl hx hWS hr hacc HA
        go_upto_region 6 with (first | (go_at_call 38; refine (CW _).mono ?_; rintro e w1 ⟨A, rfl, hown, hb1⟩) | (go_at_call 37; refine (CE2 _ _ hown (fun W' hW' => (HV.out.below FB.out (Nat.le_refl _)).below (hb1.trans hW') (Nat.le_refl _))).mono ?_; rintro e w2 ⟨rfl, hb2⟩; have FO : Hid (OwnE w2 w.heap.size v acc) := FO.out.below (hb1.trans hb2) (fun k hk => (FO.out.lt k hk).2); have FB : Hid (Below w.heap.size w w2) := FB.out.trans ((hb1.trans hb2).mono FB.out.size); have l2 := FB.out.size) | (refine store_new [.int .i64 ev.tk, .int .i64 ev.kd, .int .i64 ev.id, .int .i64 ev.fl, .int .i64 ev.tw] 34 _ _ (by kernel_rfl) (by kernel_rfl) (by kernel_rfl) rfl rfl rfl rfl ?_))
        obtain ⟨c, hc_⟩ : ∃ c, c = w2.heap.size := ⟨_, rfl⟩
        obtain ⟨W1, hw_⟩ : ∃ W1, W1 = w2.alloc (.cells #[.int .i64 ev.tk, .int .i64 ev.kd, .int .i64 ev.id, .int .i64 ev.fl, .int .i64 ev.tw] 34) := ⟨_, rfl⟩
        have FX : Hid (Blk W1 c [.int .i64 ev.tk, .int .i64 ev.kd, .int .i64 ev.id, .int .i64 ev.fl, .int .i64 ev.tw]) := by rw [hw_]; exact Blk.at_ w2 #[.int .i64 ev.tk, .int .i64 ev.kd, .int .i64 ev.id, .int .i64 ev.fl, .int .i64 ev.tw] _ _ hc_
        have FO : Hid (OwnE W1 w.heap.size v acc) := by rw [hw_]; exact FO.out.alloc _
        have FB : Hid (Below w.heap.size w W1) := by rw [hw_]; exact FB.out.alloc FB.out.size _
        simp only [List.size_toArray, List.toArray, ← hw_, ← hc_]
        clear hw_ hc_
        go_wp2_with (first | (refine load_blk 34 _ Tryz.underlying34 (by kernel_rfl) FX.out rfl rfl rfl ?_) | (at_builtin; go_loud (refine wpE _ _ w.heap.size v acc ev _ (FO.out.alloc _) (vin_newq _ ev) (by omega) (by have := FB.out.size; simp; omega) rfl rfl rfl rfl ?_); intro v1 w3 ho hg2; have FO3 : Hid (OwnE w3 w.heap.size v1 (acc ++ [ev])) := ho; have FB3 : Hid (Below w.heap.size w w3) := (FB.out.alloc FB.out.size _).grown hg2 (by have := FB.out.size; simp; omega) (fun j hj => (FO.out.lt j hj).1); clear ho hg2))
        go_roundw
        case rel => exact ⟨i + 1, v1, rfl, by simp, by omega, by rw [HE.out]; exact FO3.out, HA2.out, FB3.out⟩
        case measure => simp [intOf]; omega
    · have ei : i = L.length := by omega
      subst ei
      have hge : ¬ ((L.length : Int) < L.length) := by omega
      have HF : Hid (fb L 0 = none) := fb_none L 0 fun j y hy => HA.out j y (List.getElem?_eq_some_iff.1 hy).1 hy
      rw [List.take_length] at FO
      clear HA
      go_wp2_with fail
      go_ret2
      rw [HF.out]
      exact ⟨_, rfl, fun _ => FO.out, FB.out⟩
end Go.Proofs.YtoacnglcneliiaaGreatDoor
