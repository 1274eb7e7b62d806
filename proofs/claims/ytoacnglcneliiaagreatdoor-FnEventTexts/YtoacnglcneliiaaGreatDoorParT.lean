/-
  Events as text, and back: what is written is read again, in plain.
-/
import Derived.Test.YtoacnglcneliiaaGreatDoorParI
namespace Go.Proofs.YtoacnglcneliiaaGreatDoor
open Go.RowKit Go.Shelf Pl
set_option linter.unusedSimpArgs false
set_option linter.unusedVariables false

theorem cutG_at (c : UInt8) : ∀ (a p t : List UInt8), (∀ x ∈ a, x ≠ c) → cutG c p (a ++ c :: t) = (p ++ a) :: cutG c [] t
  | [], p, t, _ => by simp [cutG]
  | x :: a, p, t, h => by
    rw [List.cons_append, cutG_miss c x p _ (h x (by simp)), cutG_at c a (p ++ [x]) t (fun y hy => h y (by simp [hy]))]
    simp
theorem cutG_none (c : UInt8) : ∀ (a p : List UInt8), (∀ x ∈ a, x ≠ c) → cutG c p a = [p ++ a]
  | [], p, _ => by simp [cutG]
  | x :: a, p, h => by
    rw [cutG_miss c x p _ (h x (by simp)), cutG_none c a (p ++ [x]) (fun y hy => h y (by simp [hy]))]
    simp
theorem cutG_words : ∀ (l : List (List UInt8)) (a p : List UInt8), (∀ x ∈ a, x ≠ 32) → (∀ y ∈ l, ∀ x ∈ y, x ≠ 32) → cutG 32 p (a ++ l.flatMap (fun x => 32 :: x)) = (p ++ a) :: l
  | [], a, p, ha, _ => by
    simp only [List.flatMap_nil, List.append_nil]
    exact cutG_none 32 a p ha
  | y :: l, a, p, ha, hl => by
    rw [List.flatMap_cons, List.cons_append, cutG_at 32 a p _ ha, cutG_words l y [] (hl y (by simp)) (fun z hz => hl z (by simp [hz]))]
    simp
theorem cutG_lines : ∀ (l : List (List UInt8)), (∀ y ∈ l, ∀ x ∈ y, x ≠ 10) → cutG 10 [] (l.flatMap (fun x => x ++ [10])) = l ++ [[]]
  | [], _ => by simp [cutG]
  | y :: l, hl => by
    rw [List.flatMap_cons, List.append_assoc]
    show cutG 10 [] (y ++ 10 :: l.flatMap (fun x => x ++ [10])) = _
    rw [cutG_at 10 y [] _ (hl y (by simp)), cutG_lines l (fun z hz => hl z (by simp [hz]))]
    simp
theorem cutS_data (s : ByteArray) (c : UInt8) : (cutS s c).map (·.data.toList) = cutG c [] s.data.toList := by
  unfold cutS
  rw [cutF_data s c s.size 0 0 (by omega) (Nat.le_refl _)]
  simp

/-! ### digits -/
theorem dig_toNat {u : Nat} (h : u < 10) : (UInt8.ofNat (48 + u)).toNat = 48 + u := by
  simp
  omega
theorem dig_all : ∀ (n u : Nat), u < n → ∀ x ∈ Lib.decDigits u, isDg x := by
  intro n
  induction n with
  | zero => intro u h; omega
  | succ n ih =>
    intro u hu x hx
    rw [Lib.decDigits] at hx
    split at hx
    · rename_i h
      have hx := List.mem_singleton.1 hx
      subst hx
      have := dig_toNat h
      exact ⟨by omega, by omega⟩
    · rename_i h
      rcases List.mem_append.1 hx with hx | hx
      · exact ih (u / 10) (by omega) x hx
      · have hx := List.mem_singleton.1 hx
        subst hx
        have := dig_toNat (show u % 10 < 10 by omega)
        exact ⟨by omega, by omega⟩
def numL : List UInt8 → Nat → Option Nat
  | [], n => some n
  | b :: t, n => if isDg b then numL t (n * 10 + (b.toNat - 48)) else none
theorem numL_app : ∀ (a b : List UInt8) (n : Nat), numL (a ++ b) n = (numL a n).bind (numL b)
  | [], b, n => rfl
  | x :: a, b, n => by
    rw [List.cons_append]
    unfold numL
    split
    · exact numL_app a b _
    · rfl
theorem numF_L (s : ByteArray) : ∀ (k i n : Nat), k + i = s.size → numF s k i n = numL (s.data.toList.drop i) n
  | 0, i, n, hk => by
    have : s.data.toList.drop i = [] := List.drop_eq_nil_of_le (by simp; show s.size ≤ i; omega)
    rw [this]; rfl
  | k + 1, i, n, hk => by
    rw [get_list s i (by omega)]
    unfold numF numL
    rw [numF_L s k (i + 1) _ (by omega)]
theorem numL_dig : ∀ (n u : Nat), u < n → numL (Lib.decDigits u) 0 = some u := by
  intro n
  induction n with
  | zero => intro u h; omega
  | succ n ih =>
    intro u hu
    by_cases h : u < 10
    · rw [Lib.decDigits, dif_pos h]
      have e := dig_toNat h
      have hd : isDg (UInt8.ofNat (48 + u)) := ⟨by omega, by omega⟩
      unfold numL
      rw [if_pos hd, e]
      show some _ = some u
      congr 1
      omega
    · rw [Lib.decDigits, dif_neg h, numL_app, ih (u / 10) (by omega)]
      have e := dig_toNat (show u % 10 < 10 by omega)
      show numL [UInt8.ofNat (48 + u % 10)] (u / 10) = some u
      have hd : isDg (UInt8.ofNat (48 + u % 10)) := ⟨by omega, by omega⟩
      unfold numL
      rw [if_pos hd, e]
      show some _ = some u
      congr 1
      omega
theorem nDigits_gt : ∀ (k u : Nat), 10 ^ k ≤ u → k < Lib.nDigits u := by
  intro k
  induction k with
  | zero =>
    intro u _
    by_cases h : u < 10
    · rw [Lib.nDigits_small h]; omega
    · rw [Lib.nDigits_big h]; omega
  | succ k ih =>
    intro u hu
    have h : ¬ u < 10 := by
      rw [Nat.pow_succ] at hu
      have : 1 ≤ 10 ^ k := Nat.one_le_pow _ _ (by omega)
      omega
    rw [Lib.nDigits_big h]
    have := ih (u / 10) (by rw [Nat.pow_succ] at hu; omega)
    omega
theorem nDigits_pos (u : Nat) : 1 ≤ Lib.nDigits u := by
  by_cases h : u < 10
  · rw [Lib.nDigits_small h]; omega
  · rw [Lib.nDigits_big h]; omega
theorem dgB_data (u : Nat) : (dgB u).data.toList = Lib.decDigits u := by simp [dgB]
theorem dgB_len (u : Nat) : (dgB u).size = Lib.nDigits u := by
  show (Lib.decDigits u).toArray.size = _
  rw [List.size_toArray, Lib.decDigits_length]
theorem num_dg {u : Nat} (h : u < 1000000000) : numS (dgB u) = some u := by
  have a := dgB_len u
  have b := nDigits_pos u
  have c := nDigits_le 9 u (by omega) (by omega)
  unfold numS
  rw [if_neg (by omega), numF_L (dgB u) _ 0 0 (by omega), List.drop_zero, dgB_data]
  exact numL_dig (u + 1) u (by omega)
theorem num_big {u : Nat} (h : 1000000000 ≤ u) : numS (dgB u) = none := by
  have a := dgB_len u
  have c := nDigits_gt 9 u (by omega)
  unfold numS
  rw [if_pos (by omega)]
/-- Bytes that are no space and no end of a line. -/
def Hi (a : List UInt8) : Prop := ∀ x ∈ a, 48 ≤ x.toNat
theorem Hi.sp {a : List UInt8} (h : Hi a) : ∀ x ∈ a, x ≠ 32 := fun x hx e => by have := h x hx; subst e; exact absurd this (by decide)
theorem Hi.nl {a : List UInt8} (h : Hi a) : ∀ x ∈ a, x ≠ 10 := fun x hx e => by have := h x hx; subst e; exact absurd this (by decide)
theorem hi_it {n : Int} (h : 0 ≤ n) : Hi (itB n).data.toList := by
  rw [itB_pos (by omega), dgB_data]
  intro x hx
  exact (dig_all (n.toNat + 1) n.toNat (by omega) x hx).1
theorem it_ne {n : Int} (h : 0 ≤ n) : neB (itB n) = true := by
  have a := dgB_len n.toNat
  have b := nDigits_pos n.toNat
  rw [itB_pos (by omega)]
  unfold neB
  exact bne_iff_ne.2 (by omega)
theorem hi_ev (k : Int) : Hi (evW k).data.toList := by
  unfold evW
  repeat' split
  all_goals (intro x hx; simp at hx)
  all_goals (first | (rcases hx with rfl | rfl | rfl | rfl | rfl <;> decide) | (rcases hx with rfl | rfl | rfl | rfl <;> decide) | (rcases hx with rfl | rfl | rfl <;> decide))
theorem ev_ne {k : Int} (h1 : 1 ≤ k) (h5 : k ≤ 5) : neB (evW k) = true := by
  rcases (show k = 1 ∨ k = 2 ∨ k = 3 ∨ k = 4 ∨ k = 5 by omega) with rfl | rfl | rfl | rfl | rfl <;> decide
theorem kd_ev {k : Int} (h1 : 1 ≤ k) (h5 : k ≤ 5) : kdW (evW k) = k := by
  rcases (show k = 1 ∨ k = 2 ∨ k = 3 ∨ k = 4 ∨ k = 5 by omega) with rfl | rfl | rfl | rfl | rfl <;> simp [kdW, evW]

/-! ### a line -/
/-- An event as a trace without fault holds it. -/
structure OkE (e : Ev) : Prop where
  k1 : 1 ≤ e.kd
  k5 : e.kd ≤ 5
  t0 : 0 ≤ e.tk
  i0 : 0 ≤ e.id
  f0 : 0 ≤ e.fl
  f9 : e.fl < 1000000000
  w0 : 0 ≤ e.tw
  w9 : e.tw < 1000000000
  zw : e.kd ≠ 1 → e.tw = 0
  zf : e.kd = 5 → e.fl = 0
def evWs (e : Ev) : List ByteArray := itB e.tk :: evW e.kd :: ([e.id, e.fl, e.tw].take (evN e.kd)).map itB
def evLb (e : Ev) : ByteArray := (itB e.tk ++ ⟨#[32]⟩) ++ phr (evW e.kd) ([e.id, e.fl, e.tw].take (evN e.kd))
theorem phr_data : ∀ (l : List Int) (w : ByteArray), (phr w l).data.toList = w.data.toList ++ (l.map fun n => (itB n).data.toList).flatMap (fun x => 32 :: x)
  | [], w => by simp [phr]
  | n :: l, w => by
    have e : phr w (n :: l) = phr (w ++ ((⟨#[32]⟩ : ByteArray) ++ itB n)) l := rfl
    rw [e, phr_data l]
    simp [ByteArray.data_append]
theorem lb_data (e : Ev) : (evLb e).data.toList = (itB e.tk).data.toList ++ ((evW e.kd).data.toList :: (([e.id, e.fl, e.tw].take (evN e.kd)).map fun n => (itB n).data.toList)).flatMap (fun x => 32 :: x) := by
  unfold evLb
  rw [ByteArray.data_append, Array.toList_append, ByteArray.data_append, Array.toList_append, phr_data, List.flatMap_cons, List.append_assoc]
  rfl
theorem OkE.nums {e : Ev} (h : OkE e) : ∀ n ∈ [e.id, e.fl, e.tw].take (evN e.kd), 0 ≤ n := by
  intro n hn
  have := List.mem_of_mem_take hn
  simp only [List.mem_cons, List.not_mem_nil, or_false] at this
  rcases this with rfl | rfl | rfl
  · exact h.i0
  · exact h.f0
  · exact h.w0
theorem words_lb {e : Ev} (h : OkE e) : wordsS (evLb e) = evWs e := by
  have c : cutS (evLb e) 32 = evWs e := by
    apply data_inj
    rw [cutS_data, lb_data, cutG_words _ _ [] (hi_it h.t0).sp ?_]
    · unfold evWs
      simp
    · intro y hy
      rcases List.mem_cons.1 hy with rfl | hy
      · exact (hi_ev _).sp
      · obtain ⟨n, hn, rfl⟩ := List.mem_map.1 hy
        exact (hi_it (h.nums n hn)).sp
  unfold wordsS
  rw [c, List.filter_eq_self]
  intro x hx
  rcases List.mem_cons.1 hx with rfl | hx
  · exact it_ne h.t0
  rcases List.mem_cons.1 hx with rfl | hx
  · exact ev_ne h.k1 h.k5
  obtain ⟨n, hn, rfl⟩ := List.mem_map.1 hx
  exact it_ne (h.nums n hn)
theorem lb_nl {e : Ev} (h : OkE e) : ∀ x ∈ (evLb e).data.toList, x ≠ 10 := by
  intro x hx
  rw [lb_data] at hx
  rcases List.mem_append.1 hx with hx | hx
  · exact (hi_it h.t0).nl x hx
  obtain ⟨y, hy, hx⟩ := List.mem_flatMap.1 hx
  rcases List.mem_cons.1 hx with rfl | hx
  · decide
  rcases List.mem_cons.1 hy with rfl | hy
  · exact (hi_ev _).nl x hx
  obtain ⟨n, hn, rfl⟩ := List.mem_map.1 hy
  exact (hi_it (h.nums n hn)).nl x hx
theorem num_it {n : Int} (h : 0 ≤ n) (h9 : n < 1000000000) : numS (itB n) = some n.toNat := by
  rw [itB_pos (by omega)]
  exact num_dg (by omega)
theorem num_no {n : Int} (h9 : 1000000000 ≤ n) : numS (itB n) = none := by
  rw [itB_pos (by omega)]
  exact num_big (by omega)
theorem dl_ws (e : Ev) : dl (evWs e) = (e.tk :: [e.id, e.fl, e.tw].take (evN e.kd)).map itB := by
  unfold dl evWs
  simp
theorem rd_ok {e : Ev} (h : OkE e) (ht : e.tk ≤ 999999999) (hi : e.id ≤ 999999999) : rdE (evWs e) = some e := by
  have hk := kd_ev h.k1 h.k5
  have hall : ∀ n ∈ e.tk :: [e.id, e.fl, e.tw].take (evN e.kd), 0 ≤ n ∧ n < 1000000000 := by
    intro n hn
    rcases List.mem_cons.1 hn with rfl | hn
    · exact ⟨h.t0, by omega⟩
    have := List.mem_of_mem_take hn
    simp only [List.mem_cons, List.not_mem_nil, or_false] at this
    rcases this with rfl | rfl | rfl
    · exact ⟨h.i0, by omega⟩
    · exact ⟨h.f0, h.f9⟩
    · exact ⟨h.w0, h.w9⟩
  have hlen : (evWs e).length = 2 + evN e.kd := by
    have := evN_le e.kd
    unfold evWs
    simp
    omega
  have r := rdE_some (ws := evWs e) (x := evW e.kd) rfl (by have := evN_le e.kd; omega) (by rw [hk]; have := h.k1; omega) (by rw [hk]; exact hlen) (fun j y hy => by
    rw [dl_ws, List.getElem?_map] at hy
    obtain ⟨n, hn, rfl⟩ := Option.map_eq_some_iff.1 hy
    have := hall n (List.mem_of_getElem? hn)
    exact ⟨_, num_it this.1 this.2⟩)
  rw [r, hk]
  have at_ : ∀ (j : Nat) (n : Int), (e.tk :: [e.id, e.fl, e.tw].take (evN e.kd))[j]? = some n → nv (dl (evWs e)) j = n := by
    intro j n hn
    have q := hall n (List.mem_of_getElem? hn)
    rw [nv_at (u := n.toNat) (y := itB n) (by rw [dl_ws, List.getElem?_map, hn]; rfl) (num_it q.1 q.2)]
    omega
  have out_ : ∀ (j : Nat), evN e.kd < j → nv (dl (evWs e)) j = 0 := by
    intro j hj
    refine nv_out ?_
    rw [dl_ws, List.length_map]
    have := evN_le e.kd
    simp
    omega
  have e0 := at_ 0 e.tk rfl
  have zw := h.zw
  have zf := h.zf
  have k1 := h.k1
  have k5 := h.k5
  congr 1
  cases e with
  | mk tk kd id fl tw =>
    simp only at *
    rcases (show kd = 1 ∨ kd = 2 ∨ kd = 3 ∨ kd = 4 ∨ kd = 5 by omega) with rfl | rfl | rfl | rfl | rfl
    · rw [e0, at_ 1 id rfl, at_ 2 fl rfl, at_ 3 tw rfl]
    · rw [e0, at_ 1 id rfl, at_ 2 fl rfl, out_ 3 (by decide), zw (by decide)]
    · rw [e0, at_ 1 id rfl, at_ 2 fl rfl, out_ 3 (by decide), zw (by decide)]
    · rw [e0, at_ 1 id rfl, at_ 2 fl rfl, out_ 3 (by decide), zw (by decide)]
    · rw [e0, at_ 1 id rfl, out_ 2 (by decide), out_ 3 (by decide), zw (by decide), zf rfl]
theorem rd_no {e : Ev} (h : OkE e) (hb : 999999999 < e.tk ∨ 999999999 < e.id) : rdE (evWs e) = none := by
  rcases hb with hb | hb
  · exact rdE_num (j := 0) (y := itB e.tk) (by rw [dl_ws]; rfl) (num_no (by omega))
  · have := evN_le e.kd
    refine rdE_num (j := 1) (y := itB e.id) ?_ (num_no (by omega))
    rw [dl_ws]
    obtain ⟨m, hm⟩ : ∃ m, evN e.kd = m + 1 := ⟨evN e.kd - 1, by omega⟩
    rw [hm]
    rfl

/-! ### the text -/
theorem ln_eq (e : Ev) : evLn e = evLb e ++ ⟨#[10]⟩ := by
  unfold evLn evLb
  simp only [ByteArray.append_assoc]
theorem tx_data : ∀ (l : List Ev) (w : ByteArray), (l.foldl (fun a e => a ++ evLn e) w).data.toList = w.data.toList ++ (l.map fun e => (evLb e).data.toList).flatMap (fun x => x ++ [10])
  | [], w => by simp
  | e :: l, w => by
    rw [List.foldl_cons, tx_data l, ln_eq]
    simp [ByteArray.data_append]
theorem cut_tx {l : List Ev} (h : ∀ e ∈ l, OkE e) : cutS (evTx l) 10 = l.map evLb ++ [⟨#[]⟩] := by
  apply data_inj
  rw [cutS_data]
  unfold evTx
  rw [tx_data]
  simp only [List.nil_append]
  rw [cutG_lines _ (fun y hy => by obtain ⟨e, he, rfl⟩ := List.mem_map.1 hy; exact lb_nl (h e he))]
  simp
theorem lnS_tx {l : List Ev} (h : ∀ e ∈ l, OkE e) : lnS (evTx l) = l.map evLb := by
  have c := cut_tx h
  have n : lnN (evTx l) = l.length := by
    unfold lnN
    rw [c]
    have e : (l.map evLb ++ [(⟨#[]⟩ : ByteArray)]).length - 1 = l.length := by simp
    rw [e, List.getD_eq_getElem?_getD, List.getElem?_append_right (by simp)]
    have : neB ((([(⟨#[]⟩ : ByteArray)])[l.length - (l.map evLb).length]?).getD ⟨#[]⟩) = false := by rw [List.length_map, Nat.sub_self]; rfl
    rw [this]
    rfl
  unfold lnS
  rw [n, c, List.take_append_of_le_length (by simp), List.take_of_length_le (by simp)]
theorem evs_tx {l : List Ev} (h : ∀ e ∈ l, OkE e) (hs : ∀ e ∈ l, e.tk ≤ 999999999 ∧ e.id ≤ 999999999) : evsL (l.map evLb) = l := by
  unfold evsL
  rw [List.filterMap_map]
  have : ∀ e ∈ l, ((fun x => rdE (wordsS x)) ∘ evLb) e = some e := fun e he => by
    show rdE (wordsS (evLb e)) = some e
    rw [words_lb (h e he)]
    exact rd_ok (h e he) (hs e he).1 (hs e he).2
  clear h hs
  induction l with
  | nil => rfl
  | cons e l ih =>
    rw [List.filterMap_cons, this e (by simp)]
    simp only
    rw [ih (fun x hx => this x (by simp [hx]))]
theorem fb_tx {l : List Ev} (h : ∀ e ∈ l, OkE e) (hs : ∀ e ∈ l, e.tk ≤ 999999999 ∧ e.id ≤ 999999999) : fb (l.map evLb) 0 = none := by
  refine fb_none _ 0 fun j y hy => ?_
  obtain ⟨e, he, rfl⟩ := List.mem_map.1 (List.mem_of_getElem? hy)
  exact ⟨e, by rw [words_lb (h e he)]; exact rd_ok (h e he) (hs e he).1 (hs e he).2⟩
theorem fb_some : ∀ (L : List ByteArray) (k : Nat) (x : ByteArray), x ∈ L → rdE (wordsS x) = none → ∃ i, fb L k = some i
  | z :: t, k, x, hx, hn => by
    unfold fb
    by_cases c : (rdE (wordsS z)).isSome = true
    · rw [if_pos c]
      rcases List.mem_cons.1 hx with rfl | hx
      · rw [hn] at c; cases c
      · exact fb_some t (k + 1) x hx hn
    · rw [if_neg c]; exact ⟨k, rfl⟩
theorem fb_big {l : List Ev} (h : ∀ e ∈ l, OkE e) {e : Ev} (he : e ∈ l) (hb : 999999999 < e.tk ∨ 999999999 < e.id) : ∃ i, fb (l.map evLb) 0 = some i :=
  fb_some _ 0 (evLb e) (List.mem_map_of_mem he) (by rw [words_lb (h e he)]; exact rd_no (h e he) hb)
theorem tr_house {h : Hs} {l : List Ev} (t : Hs.tr h l = 0) : h.fault = 0 := by
  unfold Hs.tr at t
  by_cases c : h.fault = 0
  · exact c
  · rw [if_neg c] at t; exact t
theorem pa_many {h : Hs} {l : List Ev} (t : Hs.tr h l = 0) (hz : 3000 < (evTx l).size) : Hs.paK h (evTx l) = 2 := by
  unfold Hs.paK
  rw [if_neg (fun q => q (tr_house t)), if_pos hz]
theorem pa_bad {h : Hs} {l : List Ev} (t : Hs.tr h l = 0) (hz : ¬ 3000 < (evTx l).size) (hk : ∀ e ∈ l, OkE e) {e : Ev} (he : e ∈ l) (hb : 999999999 < e.tk ∨ 999999999 < e.id) : Hs.paK h (evTx l) = 5 := by
  obtain ⟨i, hi⟩ := fb_big hk he hb
  unfold Hs.paK
  rw [if_neg (fun q => q (tr_house t)), if_neg hz, lnS_tx hk, hi]
theorem pa_good {h : Hs} {l : List Ev} (t : Hs.tr h l = 0) (hz : ¬ 3000 < (evTx l).size) (hk : ∀ e ∈ l, OkE e) (hs : ∀ e ∈ l, e.tk ≤ 999999999 ∧ e.id ≤ 999999999) : Hs.paK h (evTx l) = 0 ∧ Hs.paV h (evTx l) = l := by
  constructor
  · unfold Hs.paK
    rw [if_neg (fun q => q (tr_house t)), if_neg hz, lnS_tx hk, fb_tx hk hs, evs_tx hk hs]
    exact t
  · unfold Hs.paV
    rw [if_neg (fun q => q (tr_house t)), if_neg hz, lnS_tx hk, fb_tx hk hs, evs_tx hk hs]
    exact if_pos t
theorem trG_all {c : Nat → Int} : ∀ {n : Nat}, trG c n = 0 → ∀ i, i < n → c i = 0
  | 0, _, i, hi => by omega
  | n + 1, h, i, hi => by
    have h' : (if trG c n = 0 then c n else trG c n) = 0 := h
    by_cases z : trG c n = 0
    · rw [if_pos z] at h'
      rcases Nat.lt_or_ge i n with q | q
      · exact trG_all z i q
      · obtain rfl : i = n := by omega
        exact h'
    · rw [if_neg z] at h'; exact absurd h' z
end Go.Proofs.YtoacnglcneliiaaGreatDoor
