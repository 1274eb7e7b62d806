/-
  What a row of words tells: an event, or none; the program reads one.
-/
import Derived.Test.YtoacnglcneliiaaGreatDoorParD
import Derived.Test.YtoacnglcneliiaaGreatDoorEvB
import Derived.Test.YtoacnglcneliiaaGreatDoorFnd
import Derived.RegionTactic
import Derived.ChangeAlike
namespace Go.Proofs.YtoacnglcneliiaaGreatDoor
open Go.RowKit Go.Shelf Pl
set_option linter.unusedSimpArgs false
set_option linter.unusedVariables false

def nv (l : List ByteArray) (j : Nat) : Int := ((((l[j]?).bind numS).getD 0 : Nat) : Int)
def rdE (ws : List ByteArray) : Option Ev :=
  if 2 ≤ ws.length ∧ kdW (ws.getD 1 ⟨#[]⟩) ≠ 0 ∧ ws.length = 2 + evN (kdW (ws.getD 1 ⟨#[]⟩)) ∧ (dl ws).all (fun x => (numS x).isSome) = true then
    some { tk := nv (dl ws) 0, kd := kdW (ws.getD 1 ⟨#[]⟩), id := nv (dl ws) 1, fl := nv (dl ws) 2, tw := nv (dl ws) 3 } else none
theorem rdE_len {ws : List ByteArray} (h : ws.length < 2) : rdE ws = none := if_neg (by omega)
theorem rdE_kd {ws : List ByteArray} {x : ByteArray} (h : ws[1]? = some x) (hk : kdW x = 0) : rdE ws = none := by
  have e : ws.getD 1 ⟨#[]⟩ = x := by rw [List.getD_eq_getElem?_getD, h]; rfl
  exact if_neg (by rw [e]; intro q; exact q.2.1 hk)
theorem rdE_ln {ws : List ByteArray} {x : ByteArray} (h : ws[1]? = some x) (hk : ws.length ≠ 2 + evN (kdW x)) : rdE ws = none := by
  have e : ws.getD 1 ⟨#[]⟩ = x := by rw [List.getD_eq_getElem?_getD, h]; rfl
  exact if_neg (by rw [e]; intro q; exact hk q.2.2.1)
theorem rdE_num {ws : List ByteArray} {j : Nat} {y : ByteArray} (h : (dl ws)[j]? = some y) (hn : numS y = none) : rdE ws = none := by
  refine if_neg ?_
  intro q
  have := List.all_eq_true.1 q.2.2.2 y (List.mem_of_getElem? h)
  rw [hn] at this
  cases this
theorem rdE_some {ws : List ByteArray} {x : ByteArray} (h : ws[1]? = some x) (h2 : 2 ≤ ws.length) (hk : kdW x ≠ 0) (hl : ws.length = 2 + evN (kdW x)) (hn : ∀ (j : Nat) y, (dl ws)[j]? = some y → ∃ u, numS y = some u) :
    rdE ws = some { tk := nv (dl ws) 0, kd := kdW x, id := nv (dl ws) 1, fl := nv (dl ws) 2, tw := nv (dl ws) 3 } := by
  have e : ws.getD 1 ⟨#[]⟩ = x := by rw [List.getD_eq_getElem?_getD, h]; rfl
  unfold rdE
  rw [e]
  refine if_pos ⟨h2, hk, hl, List.all_eq_true.2 fun y hy => ?_⟩
  obtain ⟨j, hj⟩ := List.getElem?_of_mem hy
  obtain ⟨u, hu⟩ := hn j y hj
  rw [hu]; rfl
theorem nv_at {l : List ByteArray} {j u : Nat} {y : ByteArray} (h : l[j]? = some y) (hu : numS y = some u) : nv l j = (u : Int) := by
  unfold nv; rw [h]; show (((numS y).getD 0 : Nat) : Int) = _; rw [hu]; rfl
theorem nv_out {l : List ByteArray} {j : Nat} (h : l.length ≤ j) : nv l j = 0 := by
  unfold nv; rw [List.getElem?_eq_none h]; rfl
/-- The event that is handed back. -/
def evO : Option Ev → Value
  | some e => .agg #[.int .i64 e.tk, .int .i64 e.kd, .int .i64 e.id, .int .i64 e.fl, .int .i64 e.tw]
  | none => .agg #[.int .i64 0, .int .i64 0, .int .i64 0, .int .i64 0, .int .i64 0]
def erO (eu : Value) : Option Ev → Value
  | some _ => .nilIface
  | none => eu
theorem numbersOf_q (k : Int) (w : World) : Calls Tryz.prog 11 #[.int .i64 k] w fun e w' => e = .returned (.int .i64 ((evN k : Nat) : Int)) ∧ w' = w := by
  unfold evN
  by_cases c1 : k = 1
  · subst c1
    go_enter Tryz.func11, Tryz.ntmps11
    go_wp2_with fail
    go_ret
    exact ⟨rfl, rfl⟩
  by_cases c5 : k = 5
  · subst c5
    go_enter Tryz.func11, Tryz.ntmps11
    go_wp2_with fail
    go_ret
    exact ⟨rfl, rfl⟩
  rw [if_neg c1, if_neg c5]
  have b1 : (k == 1) = false := by simpa using c1
  have b5 : (k == 5) = false := by simpa using c5
  go_enter Tryz.func11, Tryz.ntmps11
  go_wp2_with fail
  go_ret
  exact ⟨rfl, rfl⟩
/-- Four numbers of which k have been read. -/
def arr (l : List ByteArray) (k : Nat) : List Value := [.int .i64 (if 0 < k then nv l 0 else 0), .int .i64 (if 1 < k then nv l 1 else 0), .int .i64 (if 2 < k then nv l 2 else 0), .int .i64 (if 3 < k then nv l 3 else 0)]
theorem arr_set (l : List ByteArray) (k : Nat) (hk : k < 4) (u : Int) (hu : nv l k = u) : (arr l k).set k (.int .i64 u) = arr l (k + 1) := by
  subst hu
  unfold arr
  rcases (show k = 0 ∨ k = 1 ∨ k = 2 ∨ k = 3 by omega) with rfl | rfl | rfl | rfl <;> simp
theorem arr_at (l : List ByteArray) (k i : Nat) (hi : i < 4) : ∃ v, (arr l k)[i]? = some (.int .i64 v) := by
  unfold arr
  rcases (show i = 0 ∨ i = 1 ∨ i = 2 ∨ i = 3 by omega) with rfl | rfl | rfl | rfl <;> exact ⟨_, rfl⟩
theorem arr_all (l : List ByteArray) (n : Nat) (h : l.length ≤ n) : arr l n = [.int .i64 (nv l 0), .int .i64 (nv l 1), .int .i64 (nv l 2), .int .i64 (nv l 3)] := by
  have e : ∀ j, (if j < n then nv l j else 0) = nv l j := fun j => by
    by_cases c : j < n
    · exact if_pos c
    · rw [if_neg c, nv_out (by omega)]
  unfold arr
  rw [e, e, e, e]
theorem dl_mem {l : List ByteArray} {x : ByteArray} (h : x ∈ dl l) : x ∈ l := by
  rcases List.mem_append.1 h with h | h
  · exact List.mem_of_mem_take h
  · exact List.mem_of_mem_drop h
set_option maxRecDepth 20000 in
set_option maxHeartbeats 16000000 in
theorem eventIn_any (ws : List ByteArray) (A B : Nat) (eu : Value) (hl : ws.length ≤ 1048577) (hsz : ∀ x ∈ ws, x.size ≤ 1048576) (w : World) (ho : OwS w B (.slice (some ⟨A, 0, none⟩) ws.length ws.length) ws) (hV : ∀ W, Below B w W → Vr W eu) :
    Calls Tryz.prog 37 #[.slice (some ⟨A, 0, none⟩) ws.length ws.length] w fun e w' => e = .returned (.tuple #[evO (rdE ws), erO eu (rdE ws)]) ∧ Below B w w' := by
  have HO : Hid (OwS w B (.slice (some ⟨A, 0, none⟩) ws.length ws.length) ws) := ho
  have HV : Hid (∀ W, Below B w W → Vr W eu) := hV
  have lA := ho.lt A rfl
  obtain ⟨W0, hW0⟩ : ∃ W0, W0 = w.alloc (.cells #[.int .i64 0, .int .i64 0, .int .i64 0, .int .i64 0, .int .i64 0] 34) := ⟨_, rfl⟩
  have FR : Hid (Blk W0 w.heap.size [.int .i64 0, .int .i64 0, .int .i64 0, .int .i64 0, .int .i64 0]) := by rw [hW0]; exact Blk.at_ w #[.int .i64 0, .int .i64 0, .int .i64 0, .int .i64 0, .int .i64 0] _ _ rfl
  have FB : Hid (Below B w W0) := by rw [hW0]; exact (Below.refl _ _).alloc (by omega) _
  have FO : Hid (OwS W0 B (.slice (some ⟨A, 0, none⟩) ws.length ws.length) ws) := by rw [hW0]; exact ho.alloc _
  have HW0 : Hid (W0 = w.alloc (.cells #[.int .i64 0, .int .i64 0, .int .i64 0, .int .i64 0, .int .i64 0] 34)) := hW0
  clear hW0 ho hV
  have lt1 : 1 < w.heap.size := World.block_lt_of_cell? w _ (HV.out _ (Below.refl _ _)).gu
  have lBs : B ≤ w.heap.size := by omega
  by_cases h2 : ws.length < 2
  · rw [rdE_len h2]
    have gu := (HV.out _ FB.out).gu
    have gu1 : (W0.setCell ⟨w.heap.size, 0, none⟩ (.int .i64 0)).cell? ⟨1, 0, none⟩ = some eu := (((Below.refl w.heap.size W0).setCell (p := ⟨w.heap.size, 0, none⟩) (Nat.le_refl _) (.int .i64 0)).cell (p := ⟨1, 0, none⟩) lt1).trans gu
    have k0 := FR.out.c 0 _ rfl
    have f0 := FR.out.f 0 (by simp)
    have k1 := FR.out.c 1 _ rfl
    have f1 := FR.out.f 1 (by simp)
    have k2 := FR.out.c 2 _ rfl
    have f2 := FR.out.f 2 (by simp)
    have k3 := FR.out.c 3 _ rfl
    have f3 := FR.out.f 3 (by simp)
    have k4 := FR.out.c 4 _ rfl
    have f4 := FR.out.f 4 (by simp)
    have h2i : (ws.length : Int) < 2 := by omega
    go_enter Tryz.func37, Tryz.ntmps37
    go_upto_region 2 with fail
    rw [← HW0.out]
    go_region
    all_goals (try go_wp2_with fail)
    have G : Blk ((((((W0.setCell ⟨w.heap.size, 0, none⟩ (.int .i64 0)).setCell ⟨w.heap.size, 1, none⟩ (.int .i64 0)).setCell ⟨w.heap.size, 2, none⟩ (.int .i64 0)).setCell ⟨w.heap.size, 3, none⟩ (.int .i64 0)).setCell ⟨w.heap.size, 4, none⟩ (.int .i64 0)).drew) w.heap.size [.int .i64 0, .int .i64 0, .int .i64 0, .int .i64 0, .int .i64 0] := ((((((FR.out.set (k := 0) (.int .i64 0) (by simp)).set (k := 1) (.int .i64 0) (by simp)).set (k := 2) (.int .i64 0) (by simp)).set (k := 3) (.int .i64 0) (by simp)).set (k := 4) (.int .i64 0) (by simp))).drew
    have hB : Below B w ((((((W0.setCell ⟨w.heap.size, 0, none⟩ (.int .i64 0)).setCell ⟨w.heap.size, 1, none⟩ (.int .i64 0)).setCell ⟨w.heap.size, 2, none⟩ (.int .i64 0)).setCell ⟨w.heap.size, 3, none⟩ (.int .i64 0)).setCell ⟨w.heap.size, 4, none⟩ (.int .i64 0)).drew) := ((((((FB.out.setCell (p := ⟨w.heap.size, 0, none⟩) (by omega) (.int .i64 0)).setCell (p := ⟨w.heap.size, 1, none⟩) (by omega) (.int .i64 0)).setCell (p := ⟨w.heap.size, 2, none⟩) (by omega) (.int .i64 0)).setCell (p := ⟨w.heap.size, 3, none⟩) (by omega) (.int .i64 0)).setCell (p := ⟨w.heap.size, 4, none⟩) (by omega) (.int .i64 0))).drew
    obtain ⟨Wf, hWf⟩ : ∃ Wf, (((((W0.setCell ⟨w.heap.size, 0, none⟩ (.int .i64 0)).setCell ⟨w.heap.size, 1, none⟩ (.int .i64 0)).setCell ⟨w.heap.size, 2, none⟩ (.int .i64 0)).setCell ⟨w.heap.size, 3, none⟩ (.int .i64 0)).setCell ⟨w.heap.size, 4, none⟩ (.int .i64 0)).drew = Wf := ⟨_, rfl⟩
    rw [hWf] at G hB ⊢
    have g0_ := G.c 0 _ rfl
    have g1_ := G.c 1 _ rfl
    have g2_ := G.c 2 _ rfl
    have g3_ := G.c 3 _ rfl
    have g4_ := G.c 4 _ rfl
    exact bodyPost_ret (v := .tuple #[.agg #[.int .i64 0, .int .i64 0, .int .i64 0, .int .i64 0, .int .i64 0], eu]) (by simp [results, Tryz.results37, go_sem, g0_, g1_, g2_, g3_, g4_]) rfl ⟨rfl, hB⟩
  · obtain ⟨n, hn⟩ : ∃ n, ws.length = n + 1 := ⟨ws.length - 1, by omega⟩
    have h2i : ¬ ((n : Int) + 1 < 2) := by omega
    have h1i : (1 : Int) < (n : Int) + 1 := by omega
    obtain ⟨x, hx⟩ : ∃ x, ws[1]? = some x := ⟨_, List.getElem?_eq_getElem (by omega)⟩
    have c1 := FO.out.cell hx
    have hdl := dl_len ws (by omega)
    rw [hn, Nat.add_sub_cancel] at hdl
    have CD : ∀ W, OwS W B (.slice (some ⟨A, 0, none⟩) (n + 1) (n + 1)) ws → Calls Tryz.prog 65 #[.slice (some ⟨A, 0, none⟩) (n + 1) (n + 1), .int .i64 1, .int .i64 2] W fun e w' => e = .returned (.slice (some ⟨A, 0, none⟩) n (n + 1)) ∧ (∀ i x, (dl ws)[i]? = some x → w'.cell? ⟨A, i, none⟩ = some (.string x)) ∧ A < w'.heap.size ∧ Below B W w' ∧ (∀ k, k < W.heap.size → k ≠ A → w'.heap[k]? = W.heap[k]?) := by
      intro W h
      have q := del_row ws A B W (by omega) (by omega) (by rw [hn]; exact h)
      rw [hn, Nat.add_sub_cancel] at q
      exact q
    have FO : Hid (OwS W0 B (.slice (some ⟨A, 0, none⟩) (n + 1) (n + 1)) ws) := by rw [← hn]; exact FO.out
    rw [hn]
    go_enter Tryz.func37, Tryz.ntmps37
    go_upto_region 3 with fail
    rw [← HW0.out]
    go_upto_region 5 with (first | (go_at_call 64; refine (kindOf_any x _).mono ?_; rintro e w1 ⟨rfl, hw⟩; rw [hw]; clear hw) | (go_at_call 65; refine (CD _ FO.out).mono ?_; rintro e w2 ⟨rfl, hc, hl2, hb, hk⟩))
    have FR2 : Hid (Blk w2 w.heap.size [.int .i64 0, .int .i64 0, .int .i64 0, .int .i64 0, .int .i64 0]) := FR.out.of (hk _ FR.out.lt (by omega))
    have FB2 : Hid (Below B w w2) := FB.out.trans hb
    have FD : Hid (∀ i x, (dl ws)[i]? = some x → w2.cell? ⟨A, i, none⟩ = some (.string x)) := hc
    have l2 : w.heap.size < w2.heap.size := FR2.out.lt
    clear hc hb hk CD c1 FR FB FO HW0 HO
    obtain ⟨D, hD⟩ : ∃ D, dl ws = D := ⟨_, rfl⟩
    have HDD : Hid (dl ws = D) := hD
    rw [hD] at hdl FD
    obtain ⟨kd, hkd⟩ : ∃ kd, kdW x = kd := ⟨_, rfl⟩
    rw [hkd]
    by_cases hk0 : kd = 0
    · have HN : Hid (rdE ws = none) := rdE_kd hx (by rw [hkd, hk0])
      subst hk0
      clear hkd hD
      go_upto_region 6 with fail
      have gu := (HV.out _ FB2.out).gu
      have gu1 : (w2.setCell ⟨w.heap.size, 0, none⟩ (.int .i64 0)).cell? ⟨1, 0, none⟩ = some eu := (((Below.refl w.heap.size w2).setCell (p := ⟨w.heap.size, 0, none⟩) (Nat.le_refl _) (.int .i64 0)).cell (p := ⟨1, 0, none⟩) lt1).trans gu
      have k0 := FR2.out.c 0 _ rfl
      have f0 := FR2.out.f 0 (by simp)
      have k1 := FR2.out.c 1 _ rfl
      have f1 := FR2.out.f 1 (by simp)
      have k2 := FR2.out.c 2 _ rfl
      have f2 := FR2.out.f 2 (by simp)
      have k3 := FR2.out.c 3 _ rfl
      have f3 := FR2.out.f 3 (by simp)
      have k4 := FR2.out.c 4 _ rfl
      have f4 := FR2.out.f 4 (by simp)
      go_region
      all_goals (try go_wp2_with fail)
      rw [HN.out]
      have G : Blk ((((((w2.setCell ⟨w.heap.size, 0, none⟩ (.int .i64 0)).setCell ⟨w.heap.size, 1, none⟩ (.int .i64 0)).setCell ⟨w.heap.size, 2, none⟩ (.int .i64 0)).setCell ⟨w.heap.size, 3, none⟩ (.int .i64 0)).setCell ⟨w.heap.size, 4, none⟩ (.int .i64 0)).drew) w.heap.size [.int .i64 0, .int .i64 0, .int .i64 0, .int .i64 0, .int .i64 0] := ((((((FR2.out.set (k := 0) (.int .i64 0) (by simp)).set (k := 1) (.int .i64 0) (by simp)).set (k := 2) (.int .i64 0) (by simp)).set (k := 3) (.int .i64 0) (by simp)).set (k := 4) (.int .i64 0) (by simp))).drew
      have hB : Below B w ((((((w2.setCell ⟨w.heap.size, 0, none⟩ (.int .i64 0)).setCell ⟨w.heap.size, 1, none⟩ (.int .i64 0)).setCell ⟨w.heap.size, 2, none⟩ (.int .i64 0)).setCell ⟨w.heap.size, 3, none⟩ (.int .i64 0)).setCell ⟨w.heap.size, 4, none⟩ (.int .i64 0)).drew) := ((((((FB2.out.setCell (p := ⟨w.heap.size, 0, none⟩) (by omega) (.int .i64 0)).setCell (p := ⟨w.heap.size, 1, none⟩) (by omega) (.int .i64 0)).setCell (p := ⟨w.heap.size, 2, none⟩) (by omega) (.int .i64 0)).setCell (p := ⟨w.heap.size, 3, none⟩) (by omega) (.int .i64 0)).setCell (p := ⟨w.heap.size, 4, none⟩) (by omega) (.int .i64 0))).drew
      obtain ⟨Wf, hWf⟩ : ∃ Wf, (((((w2.setCell ⟨w.heap.size, 0, none⟩ (.int .i64 0)).setCell ⟨w.heap.size, 1, none⟩ (.int .i64 0)).setCell ⟨w.heap.size, 2, none⟩ (.int .i64 0)).setCell ⟨w.heap.size, 3, none⟩ (.int .i64 0)).setCell ⟨w.heap.size, 4, none⟩ (.int .i64 0)).drew = Wf := ⟨_, rfl⟩
      rw [hWf] at G hB ⊢
      have g0_ := G.c 0 _ rfl
      have g1_ := G.c 1 _ rfl
      have g2_ := G.c 2 _ rfl
      have g3_ := G.c 3 _ rfl
      have g4_ := G.c 4 _ rfl
      exact bodyPost_ret (v := .tuple #[.agg #[.int .i64 0, .int .i64 0, .int .i64 0, .int .i64 0, .int .i64 0], eu]) (by simp [results, Tryz.results37, go_sem, g0_, g1_, g2_, g3_, g4_]) rfl ⟨rfl, hB⟩
    · have hkn : (decide (kd ≠ 0)) = true := decide_eq_true hk0
      have hkn2 : (kd == 0) = false := by simpa using hk0
      have CN := numbersOf_q kd
      have hle := evN_le kd
      obtain ⟨m, hm⟩ : ∃ m, evN kd = m := ⟨_, rfl⟩
      rw [hm] at CN hle
      have ew : IntKind.i64.wrap (1 + (m : Int)) = 1 + (m : Int) := IntWalk.i64_in _ (by omega)
      by_cases hmn : n = 1 + m
      · have hne : ((n : Int) == 1 + (m : Int)) = true := by simp; omega
        have hys : ∀ y ∈ D, y.size ≤ 1048576 := fun y hy => hsz y (dl_mem (by rw [hD]; exact hy))
        have HS : Hid ((∀ (j : Nat) y, D[j]? = some y → ∃ u, numS y = some u) → rdE ws = some { tk := nv D 0, kd := kd, id := nv D 1, fl := nv D 2, tw := nv D 3 }) := by
          intro q
          have r := rdE_some hx (by omega) (by rw [hkd]; exact hk0) (by rw [hkd, hm]; omega) (by rw [hD]; exact q)
          rw [hkd, hD] at r
          exact r
        have lA2 : A < w2.heap.size := hl2
        clear hkd hD hm hx
        go_upto_region 7 with (go_at_call 11; refine (CN _).mono ?_; rintro e w3 ⟨rfl, hw⟩; rw [hw]; clear hw)
        go_wp2_with fail
        go_loopw [40] (fun ii wr => ∃ i : Nat, ii = .int .i64 (i : Int) ∧ i ≤ n ∧ Blk wr w.heap.size [.int .i64 0, .int .i64 0, .int .i64 0, .int .i64 0, .int .i64 0] ∧ Blk wr w2.heap.size (arr D i) ∧ (∀ (j : Nat) y, j < i → D[j]? = some y → ∃ u, numS y = some u) ∧ (∀ i x, D[i]? = some x → wr.cell? ⟨A, i, none⟩ = some (.string x)) ∧ Below B w wr) (fun ii _ => n - (intOf ii).toNat)
        case atStart => exact ⟨0, rfl, by omega, FR2.out.alloc _, Blk.at_ w2 #[.int .i64 0, .int .i64 0, .int .i64 0, .int .i64 0] _ _ rfl, fun j y hj => by omega, fun i x hx => by rw [World.cell?_alloc_lt _ _ ⟨A, i, none⟩ lA2]; exact FD.out i x hx, FB2.out.alloc (by omega) _⟩
        case round =>
          obtain ⟨i, rfl, hi, hr, hq, hall, hc, hb⟩ := hrel
          clear FR2 FB2 FD
          have FR : Hid (Blk wr w.heap.size [.int .i64 0, .int .i64 0, .int .i64 0, .int .i64 0, .int .i64 0]) := hr
          have FN : Hid (Blk wr w2.heap.size (arr D i)) := hq
          have FD : Hid (∀ i x, D[i]? = some x → wr.cell? ⟨A, i, none⟩ = some (.string x)) := hc
          have FB : Hid (Below B w wr) := hb
          have HA : Hid (∀ (j : Nat) y, j < i → D[j]? = some y → ∃ u, numS y = some u) := hall
          clear hr hq hc hb hall
          by_cases hlt : i < n
          · obtain ⟨y, hy⟩ : ∃ y, D[i]? = some y := ⟨_, List.getElem?_eq_getElem (by omega)⟩
            have c0 := FD.out i y hy
            have CG0 := fun W h => digitsIn_any y (hys y (List.mem_of_getElem? hy)) eu W h
            have hi4 : (i : Int) < 4 := by omega
            have hin : (i : Int) < n := by omega
            cases hu : numS y with
            | some u =>
              rw [hu] at CG0
              have CG : ∀ W, Vr W eu → Calls Tryz.prog 66 #[.string y] W fun e w' => e = .returned (.tuple #[.int .i64 (u : Int), .nilIface]) ∧ Below W.heap.size W w' := CG0
              clear CG0
              obtain ⟨v0, hv0⟩ := arr_at D i i (by omega)
              have HU : Hid ((arr D i).set i (.int .i64 (u : Int)) = arr D (i + 1)) := arr_set D i (by omega) u (nv_at hy hu)
              have HA2 : Hid (∀ (j : Nat) y, j < i + 1 → D[j]? = some y → ∃ u, numS y = some u) := fun j y' hj hy' => by
                rcases Nat.lt_or_ge j i with c | c
                · exact HA.out j y' c hy'
                · obtain rfl : j = i := by omega
                  rw [hy] at hy'; cases hy'; exact ⟨u, hu⟩
              clear hy hu HA
              go_wp2_with (go_at_call 66; refine (CG _ (HV.out _ FB.out)).mono ?_; rintro e w3 ⟨rfl, hb⟩; have FR : Hid (Blk w3 w.heap.size [.int .i64 0, .int .i64 0, .int .i64 0, .int .i64 0, .int .i64 0]) := FR.out.below hb FR.out.lt; have FN : Hid (Blk w3 w2.heap.size (arr D i)) := FN.out.below hb FN.out.lt; have FD : Hid (∀ i x, D[i]? = some x → w3.cell? ⟨A, i, none⟩ = some (.string x)) := fun i x hx => (hb.cell (p := ⟨A, i, none⟩) (World.block_lt_of_cell? _ _ (FD.out i x hx))).trans (FD.out i x hx); have FB : Hid (Below B w w3) := FB.out.trans (hb.mono FB.out.size |>.mono lBs); have z0 := FN.out.c i _ hv0; have y0 := FN.out.f i (by simp [arr]; omega); clear hb)
              go_roundw
              case rel => exact ⟨i + 1, by simp, by omega, FR.out.other (by omega), by rw [← HU.out]; exact FN.out.set _ (by simp [arr]; omega), HA2.out, fun j x hx => (((Below.refl w2.heap.size _).setCell (p := ⟨w2.heap.size, i, none⟩) (Nat.le_refl _) _).cell (p := ⟨A, j, none⟩) lA2).trans (FD.out j x hx), FB.out.setCell (p := ⟨w2.heap.size, i, none⟩) (show B ≤ w2.heap.size by omega) _⟩
              case measure => simp [intOf]; omega
            | none =>
              rw [hu] at CG0
              have CG : ∀ W, Vr W eu → Calls Tryz.prog 66 #[.string y] W fun e w' => e = .returned (.tuple #[.int .i64 0, eu]) ∧ Below W.heap.size W w' := CG0
              clear CG0
              have HN : Hid (rdE ws = none) := rdE_num (j := i) (y := y) (by rw [HDD.out]; exact hy) hu
              obtain ⟨t, p, rfl⟩ := (HV.out _ FB.out).iu
              clear hy hu HA
              go_upto_region 13 with (go_at_call 66; refine (CG _ (HV.out _ FB.out)).mono ?_; rintro e w3 ⟨rfl, hb⟩; have FR : Hid (Blk w3 w.heap.size [.int .i64 0, .int .i64 0, .int .i64 0, .int .i64 0, .int .i64 0]) := FR.out.below hb FR.out.lt; have FB : Hid (Below B w w3) := FB.out.trans (hb.mono (Nat.le_trans lBs FB.out.size)); clear hb)
              go_wp2_with (refine store_blk [.int .i64 0, .int .i64 0, .int .i64 0, .int .i64 0, .int .i64 0] 34 _ _ (by kernel_rfl) (by kernel_rfl) (by kernel_rfl) FR.out rfl rfl rfl rfl ?_)
              have G := FR.out.row [.int .i64 0, .int .i64 0, .int .i64 0, .int .i64 0, .int .i64 0]
              obtain ⟨Wf, hWf⟩ : ∃ Wf, w3.setRow w.heap.size [.int .i64 0, .int .i64 0, .int .i64 0, .int .i64 0, .int .i64 0].toArray = Wf := ⟨_, rfl⟩
              have hB : Below B w Wf := hWf ▸ below_row FB.out (by omega) _
              rw [hWf] at G ⊢
              have g0_ := G.c 0 _ rfl
              have g1_ := G.c 1 _ rfl
              have g2_ := G.c 2 _ rfl
              have g3_ := G.c 3 _ rfl
              have g4_ := G.c 4 _ rfl
              rw [HN.out]
              exact bodyPost_ret (v := .tuple #[.agg #[.int .i64 0, .int .i64 0, .int .i64 0, .int .i64 0, .int .i64 0], .iface t p]) (by simp [results, Tryz.results37, go_sem, g0_, g1_, g2_, g3_, g4_]) rfl ⟨rfl, hB⟩
          · have ei : i = n := by omega
            have hin : ¬ (i : Int) < n := by omega
            have HSS : Hid (rdE ws = some { tk := nv D 0, kd := kd, id := nv D 1, fl := nv D 2, tw := nv D 3 }) := HS.out fun j y hy => HA.out j y (by have := (List.getElem?_eq_some_iff.1 hy).1; omega) hy
            have q := FN.out
            rw [ei, arr_all D n (by omega)] at q
            obtain ⟨a0, e0⟩ : ∃ a, nv D 0 = a := ⟨_, rfl⟩
            obtain ⟨a1, e1⟩ : ∃ a, nv D 1 = a := ⟨_, rfl⟩
            obtain ⟨a2, e2⟩ : ∃ a, nv D 2 = a := ⟨_, rfl⟩
            obtain ⟨a3, e3⟩ : ∃ a, nv D 3 = a := ⟨_, rfl⟩
            rw [e0, e1, e2, e3] at q HSS
            have y0 := q.c 0 _ rfl
            have y1 := q.c 1 _ rfl
            have y2 := q.c 2 _ rfl
            have y3 := q.c 3 _ rfl
            clear q e0 e1 e2 e3 HS HA FN FD ei
            go_wp2_with (refine store_blk [.int .i64 a0, .int .i64 kd, .int .i64 a1, .int .i64 a2, .int .i64 a3] 34 _ _ (by kernel_rfl) (by kernel_rfl) (by kernel_rfl) FR.out rfl rfl rfl rfl ?_)
            have G := FR.out.row [.int .i64 a0, .int .i64 kd, .int .i64 a1, .int .i64 a2, .int .i64 a3]
            obtain ⟨Wf, hWf⟩ : ∃ Wf, wr.setRow w.heap.size [.int .i64 a0, .int .i64 kd, .int .i64 a1, .int .i64 a2, .int .i64 a3].toArray = Wf := ⟨_, rfl⟩
            have hB : Below B w Wf := hWf ▸ below_row FB.out (by omega) _
            rw [hWf] at G ⊢
            have g0_ := G.c 0 _ rfl
            have g1_ := G.c 1 _ rfl
            have g2_ := G.c 2 _ rfl
            have g3_ := G.c 3 _ rfl
            have g4_ := G.c 4 _ rfl
            rw [HSS.out]
            exact bodyPost_ret (v := .tuple #[.agg #[.int .i64 a0, .int .i64 kd, .int .i64 a1, .int .i64 a2, .int .i64 a3], .nilIface]) (by simp [results, Tryz.results37, go_sem, g0_, g1_, g2_, g3_, g4_]) rfl ⟨rfl, hB⟩
      · have HN : Hid (rdE ws = none) := rdE_ln hx (by rw [hkd, hm]; omega)
        have hne : ((n : Int) == 1 + (m : Int)) = false := by simp; omega
        clear hkd hD hm
        go_upto_region 6 with (go_at_call 11; refine (CN _).mono ?_; rintro e w3 ⟨rfl, hw⟩; rw [hw]; clear hw)
        have gu := (HV.out _ FB2.out).gu
        have gu1 : (w2.setCell ⟨w.heap.size, 0, none⟩ (.int .i64 0)).cell? ⟨1, 0, none⟩ = some eu := (((Below.refl w.heap.size w2).setCell (p := ⟨w.heap.size, 0, none⟩) (Nat.le_refl _) (.int .i64 0)).cell (p := ⟨1, 0, none⟩) lt1).trans gu
        have k0 := FR2.out.c 0 _ rfl
        have f0 := FR2.out.f 0 (by simp)
        have k1 := FR2.out.c 1 _ rfl
        have f1 := FR2.out.f 1 (by simp)
        have k2 := FR2.out.c 2 _ rfl
        have f2 := FR2.out.f 2 (by simp)
        have k3 := FR2.out.c 3 _ rfl
        have f3 := FR2.out.f 3 (by simp)
        have k4 := FR2.out.c 4 _ rfl
        have f4 := FR2.out.f 4 (by simp)
        go_region
        all_goals (try go_wp2_with fail)
        rw [HN.out]
        have G : Blk ((((((w2.setCell ⟨w.heap.size, 0, none⟩ (.int .i64 0)).setCell ⟨w.heap.size, 1, none⟩ (.int .i64 0)).setCell ⟨w.heap.size, 2, none⟩ (.int .i64 0)).setCell ⟨w.heap.size, 3, none⟩ (.int .i64 0)).setCell ⟨w.heap.size, 4, none⟩ (.int .i64 0)).drew) w.heap.size [.int .i64 0, .int .i64 0, .int .i64 0, .int .i64 0, .int .i64 0] := ((((((FR2.out.set (k := 0) (.int .i64 0) (by simp)).set (k := 1) (.int .i64 0) (by simp)).set (k := 2) (.int .i64 0) (by simp)).set (k := 3) (.int .i64 0) (by simp)).set (k := 4) (.int .i64 0) (by simp))).drew
        have hB : Below B w ((((((w2.setCell ⟨w.heap.size, 0, none⟩ (.int .i64 0)).setCell ⟨w.heap.size, 1, none⟩ (.int .i64 0)).setCell ⟨w.heap.size, 2, none⟩ (.int .i64 0)).setCell ⟨w.heap.size, 3, none⟩ (.int .i64 0)).setCell ⟨w.heap.size, 4, none⟩ (.int .i64 0)).drew) := ((((((FB2.out.setCell (p := ⟨w.heap.size, 0, none⟩) (by omega) (.int .i64 0)).setCell (p := ⟨w.heap.size, 1, none⟩) (by omega) (.int .i64 0)).setCell (p := ⟨w.heap.size, 2, none⟩) (by omega) (.int .i64 0)).setCell (p := ⟨w.heap.size, 3, none⟩) (by omega) (.int .i64 0)).setCell (p := ⟨w.heap.size, 4, none⟩) (by omega) (.int .i64 0))).drew
        obtain ⟨Wf, hWf⟩ : ∃ Wf, (((((w2.setCell ⟨w.heap.size, 0, none⟩ (.int .i64 0)).setCell ⟨w.heap.size, 1, none⟩ (.int .i64 0)).setCell ⟨w.heap.size, 2, none⟩ (.int .i64 0)).setCell ⟨w.heap.size, 3, none⟩ (.int .i64 0)).setCell ⟨w.heap.size, 4, none⟩ (.int .i64 0)).drew = Wf := ⟨_, rfl⟩
        rw [hWf] at G hB ⊢
        have g0_ := G.c 0 _ rfl
        have g1_ := G.c 1 _ rfl
        have g2_ := G.c 2 _ rfl
        have g3_ := G.c 3 _ rfl
        have g4_ := G.c 4 _ rfl
        exact bodyPost_ret (v := .tuple #[.agg #[.int .i64 0, .int .i64 0, .int .i64 0, .int .i64 0, .int .i64 0], eu]) (by simp [results, Tryz.results37, go_sem, g0_, g1_, g2_, g3_, g4_]) rfl ⟨rfl, hB⟩
end Go.Proofs.YtoacnglcneliiaaGreatDoor
