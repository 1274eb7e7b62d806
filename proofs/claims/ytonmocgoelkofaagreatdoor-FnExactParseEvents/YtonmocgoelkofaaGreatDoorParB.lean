/-
  The model reads a row of words: an event, or none.
-/
import Derived.Test.YtonmocgoelkofaaGreatDoorParA
import Derived.Test.YtonmocgoelkofaaGreatDoorParE
import Derived.Test.YtonmocgoelkofaaGreatDoorFmtS
import Derived.Deep.RegionWith
namespace Go.Proofs.YtonmocgoelkofaaGreatDoor
open Go.RowKit Pl
set_option linter.unusedSimpArgs false
set_option linter.unusedVariables false

theorem kdW_iff (s : ByteArray) (k : Nat) (h1 : 1 ≤ k) (h5 : k ≤ 5) : evW (k : Int) = s ↔ kdW s = k := by
  have hd : ∀ i j : Fin 6, 1 ≤ i.val → 1 ≤ j.val → i ≠ j → evW ((i.val : Nat) : Int) ≠ evW ((j.val : Nat) : Int) := by
    intro i j hi hj hij
    rcases i with ⟨i, hi6⟩
    rcases j with ⟨j, hj6⟩
    simp only at hi hj
    rcases (show i = 1 ∨ i = 2 ∨ i = 3 ∨ i = 4 ∨ i = 5 by omega) with rfl | rfl | rfl | rfl | rfl <;> rcases (show j = 1 ∨ j = 2 ∨ j = 3 ∨ j = 4 ∨ j = 5 by omega) with rfl | rfl | rfl | rfl | rfl <;> first | (exact absurd rfl hij) | (simp [evW])
  constructor
  · intro h
    subst h
    exact kdW_hit _ k h1 h5 (fun j a c e => hd ⟨k, by omega⟩ ⟨j, by omega⟩ h1 a (by intro q; injection q with q; omega) e) rfl
  · intro h
    by_cases c : s = evW (k : Int)
    · exact c.symm
    · exfalso
      unfold kdW at h
      split at h
      · rename_i e; have : k = 1 := by omega
        subst this; exact c e
      split at h
      · rename_i e; have : k = 2 := by omega
        subst this; exact c e
      split at h
      · rename_i e; have : k = 3 := by omega
        subst this; exact c e
      split at h
      · rename_i e; have : k = 4 := by omega
        subst this; exact c e
      split at h
      · rename_i e; have : k = 5 := by omega
        subst this; exact c e
      · omega
theorem kdW_bd (s : ByteArray) : 0 ≤ kdW s ∧ kdW s ≤ 5 := by
  unfold kdW
  repeat' split
  all_goals omega
/-- The kind that has been found among the first words. -/
def kdU (x : ByteArray) (k : Nat) : Int := if kdW x < k then kdW x else 0
theorem kdU_hit {x : ByteArray} {k : Nat} (h : kdW x = k) : kdU x (k + 1) = k := by unfold kdU; rw [if_pos (by omega)]; exact h
theorem kdU_miss {x : ByteArray} {k : Nat} (h : kdW x ≠ k) : kdU x (k + 1) = kdU x k := by
  unfold kdU
  by_cases c : kdW x < k
  · rw [if_pos c, if_pos (by omega)]
  · rw [if_neg c, if_neg (by omega)]
theorem dl_zero {l : List ByteArray} (h : 2 ≤ l.length) : (dl l)[0]? = l[0]? := by
  unfold dl
  rw [List.getElem?_append_left (by rw [List.length_take]; omega), List.getElem?_take]
  simp
theorem dl_succ {l : List ByteArray} (h : 2 ≤ l.length) (j : Nat) : (dl l)[j + 1]? = l[j + 2]? := by
  unfold dl
  have e : (l.take 1).length = 1 := by rw [List.length_take]; omega
  rw [List.getElem?_append_right (by omega), e, List.getElem?_drop]
  congr 1
  omega
/-- The numbers that have been read. -/
def nvL (D : List ByteArray) (c : Nat) : List Int := (List.range c).map (nv D)
theorem nvL_len (D : List ByteArray) (c : Nat) : (nvL D c).length = c := by simp [nvL]
theorem nvL_snoc (D : List ByteArray) (c : Nat) : nvL D (c + 1) = nvL D c ++ [nv D c] := by simp [nvL, List.range_succ]
def cntI (i : Nat) : Nat := if i ≤ 1 then i else i - 1
theorem intsV_app {w : World} {B : Nat} {v : Value} {l : List Int} {x : Int} (h : w.ownsRow B 2 1 v (l.length + 1) (intsV l ++ [.int .i64 x])) : OwI w B v (l ++ [x]) := by
  unfold OwI
  rw [List.length_append]
  have e : intsV (l ++ [x]) = intsV l ++ [.int .i64 x] := by simp [intsV]
  rw [e]
  exact h
theorem nvL_at {D : List ByteArray} {m j : Nat} (hD : D.length ≤ m) (hj : j < m + 2) : (nvL D m ++ [0, 0])[j]? = some (nv D j) := by
  by_cases c : j < m
  · rw [List.getElem?_append_left (by rw [nvL_len]; exact c)]
    unfold nvL
    rw [List.getElem?_map, List.getElem?_range c]
    rfl
  · rw [List.getElem?_append_right (by rw [nvL_len]; omega), nv_out (by omega), nvL_len]
    rcases (show j = m ∨ j = m + 1 by omega) with rfl | rfl
    · simp
    · simp
theorem intsV_app2 {w : World} {B : Nat} {v : Value} {l : List Int} {x y : Int} (h : w.ownsRow B 2 1 v (l.length + 2) (intsV l ++ [.int .i64 x, .int .i64 y])) : OwI w B v (l ++ [x, y]) := by
  unfold OwI
  rw [List.length_append]
  have e : intsV (l ++ [x, y]) = intsV l ++ [.int .i64 x, .int .i64 y] := by simp [intsV]
  rw [e]
  exact h
theorem two_new (w : World) (x y : Int) (T : TypeId) : ∀ j u, ([Value.int .i64 x, .int .i64 y] : List Value)[j]? = some u → (w.alloc (.cells #[.int .i64 x, .int .i64 y] T)).cell? ((⟨w.heap.size, 0, none⟩ : Addr).add j) = some u := by
  intro j u hu
  rcases j with _ | _ | j
  · simp at hu; subst hu; simp [Addr.add]
  · simp at hu; subst hu; simp [Addr.add]
  · simp at hu
theorem two_cell (x y : Int) : ∀ u ∈ ([Value.int .i64 x, .int .i64 y] : List Value), u.oneCell' = true := by
  intro u hu
  simp at hu
  rcases hu with rfl | rfl <;> rfl
theorem OwI.four {w : World} {B n : Nat} {v : Value} {l : List Int} (h : OwI w B v l) (hn : l.length = n) (h4 : 4 ≤ n) : ∃ g cap, v = .slice (some ⟨g, 0, none⟩) n cap ∧ B ≤ g ∧ g < w.heap.size := by
  rcases h.cases with ⟨_, e⟩ | ⟨g, cap, e⟩
  · rw [e] at hn; simp at hn; omega
  · rw [hn] at e; exact ⟨g, cap, e, h.lt g (by rw [e]; rfl)⟩
set_option maxRecDepth 20000 in
set_option maxHeartbeats 16000000 in
theorem l10Read_any (ws : List ByteArray) (a : Option Addr) (g cap : Nat) (hl : ws.length ≤ 1048577) (hsz : ∀ x ∈ ws, x.size ≤ 1048576) (w : World) (hg : g < w.heap.size) (hc : ∀ i x, ws[i]? = some x → w.cell? ⟨g, i, none⟩ = some (.string x)) (ha : ws.length < 3 ∨ a = some ⟨g, 0, none⟩) :
    Calls Tryz.prog 12 #[.slice a ws.length cap] w fun e w' => (∃ q : Ev, e = .returned (.tuple #[.agg #[.int .i64 q.tk, .int .i64 q.kd, .int .i64 q.id, .int .i64 q.fl, .int .i64 q.tw], .bool (rdE ws).isSome]) ∧ ∀ ev, rdE ws = some ev → q = ev) ∧ Below w.heap.size w w' := by
  have HC : Hid (∀ i x, ws[i]? = some x → w.cell? ⟨g, i, none⟩ = some (.string x)) := hc
  obtain ⟨W0, hW0⟩ : ∃ W0, W0 = (w.alloc (.cells #[.int .i64 0, .int .i64 0, .int .i64 0, .int .i64 0, .int .i64 0] 37)).alloc (.cells #[.int .i64 0, .int .i64 0, .int .i64 0, .int .i64 0, .int .i64 0] 37) := ⟨_, rfl⟩
  have FR : Hid (Blk W0 w.heap.size [.int .i64 0, .int .i64 0, .int .i64 0, .int .i64 0, .int .i64 0]) := by rw [hW0]; exact (Blk.at_ w #[.int .i64 0, .int .i64 0, .int .i64 0, .int .i64 0, .int .i64 0] _ _ rfl).alloc _
  have FE : Hid (Blk W0 (w.heap.size + 1) [.int .i64 0, .int .i64 0, .int .i64 0, .int .i64 0, .int .i64 0]) := by rw [hW0]; exact Blk.at_ _ #[.int .i64 0, .int .i64 0, .int .i64 0, .int .i64 0, .int .i64 0] _ _ (by simp)
  have FB : Hid (Below w.heap.size w W0) := by rw [hW0]; exact ((Below.refl _ _).alloc (Nat.le_refl _) _).alloc (by simp) _
  have HW0 : Hid (W0 = (w.alloc (.cells #[.int .i64 0, .int .i64 0, .int .i64 0, .int .i64 0, .int .i64 0] 37)).alloc (.cells #[.int .i64 0, .int .i64 0, .int .i64 0, .int .i64 0, .int .i64 0] 37)) := hW0
  clear hW0 hc
  by_cases h3 : ws.length < 3
  · have HN : Hid (rdE ws = none) := by
      by_cases h2 : ws.length < 2
      · exact rdE_len h2
      · obtain ⟨x, hx⟩ : ∃ x, ws[1]? = some x := ⟨_, List.getElem?_eq_getElem (by omega)⟩
        exact rdE_ln hx (by have := evN_le (kdW x); omega)
    have h3i : (ws.length : Int) < 3 := by omega
    go_enter Tryz.func12, Tryz.ntmps12
    go_upto_region 2 with (refine store_new [.int .i64 0, .int .i64 0, .int .i64 0, .int .i64 0, .int .i64 0] 37 _ _ (by kernel_rfl) (by kernel_rfl) (by kernel_rfl) (by simp) rfl rfl rfl ?_)
    rw [← HW0.out]
    go_wp2_with (first | (refine load_blk 37 _ Tryz.underlying37 (by kernel_rfl) FE.out rfl rfl rfl ?_) | (refine store_blk [.int .i64 0, .int .i64 0, .int .i64 0, .int .i64 0, .int .i64 0] 37 _ _ (by kernel_rfl) (by kernel_rfl) (by kernel_rfl) FR.out rfl rfl rfl rfl ?_))
    rw [HN.out]
    have G := FR.out.row [.int .i64 0, .int .i64 0, .int .i64 0, .int .i64 0, .int .i64 0]
    obtain ⟨Wf, hWf⟩ : ∃ Wf, W0.setRow w.heap.size [.int .i64 0, .int .i64 0, .int .i64 0, .int .i64 0, .int .i64 0].toArray = Wf := ⟨_, rfl⟩
    have hB : Below w.heap.size w Wf := hWf ▸ below_row FB.out (Nat.le_refl _) _
    rw [hWf] at G ⊢
    have g0_ := G.c 0 _ rfl
    have g1_ := G.c 1 _ rfl
    have g2_ := G.c 2 _ rfl
    have g3_ := G.c 3 _ rfl
    have g4_ := G.c 4 _ rfl
    exact bodyPost_ret (v := .tuple #[.agg #[.int .i64 0, .int .i64 0, .int .i64 0, .int .i64 0, .int .i64 0], .bool false]) (by simp [results, Tryz.results12, go_sem, g0_, g1_, g2_, g3_, g4_]) rfl ⟨⟨⟨0, 0, 0, 0, 0⟩, rfl, fun ev q => by cases q⟩, hB⟩
  · obtain rfl := ha.resolve_left h3
    obtain ⟨n, HNL0⟩ : ∃ n, ws.length = n := ⟨_, rfl⟩
    have HNL : Hid (ws.length = n) := HNL0
    have h3i : ¬ (n : Int) < 3 := by omega
    have h1i : (1 : Int) < n := by omega
    obtain ⟨x, hx⟩ : ∃ x, ws[1]? = some x := ⟨_, List.getElem?_eq_getElem (by omega)⟩
    have kb := kdW_bd x
    rw [HNL0]
    go_enter Tryz.func12, Tryz.ntmps12
    go_upto_region 2 with (refine store_new [.int .i64 0, .int .i64 0, .int .i64 0, .int .i64 0, .int .i64 0] 37 _ _ (by kernel_rfl) (by kernel_rfl) (by kernel_rfl) (by simp) rfl rfl rfl ?_)
    rw [← HW0.out]
    go_wp2_with fail
    go_loopw [5] (fun kk wr => ∃ k : Nat, kk = .int .i64 (k : Int) ∧ 1 ≤ k ∧ k ≤ 6 ∧ Blk wr w.heap.size [.int .i64 0, .int .i64 0, .int .i64 0, .int .i64 0, .int .i64 0] ∧ Blk wr (w.heap.size + 1) [.int .i64 0, .int .i64 (kdU x k), .int .i64 0, .int .i64 0, .int .i64 0] ∧ Below w.heap.size w wr) (fun kk _ => 7 - (intOf kk).toNat)
    case atStart => exact ⟨1, rfl, by omega, by omega, FR.out, by rw [show kdU x 1 = 0 by unfold kdU; split <;> omega]; exact FE.out, FB.out⟩
    case round =>
      obtain ⟨k, rfl, hk1, hk6, hr, he, hb⟩ := hrel
      clear FR FE FB HW0
      have FR : Hid (Blk wr w.heap.size [.int .i64 0, .int .i64 0, .int .i64 0, .int .i64 0, .int .i64 0]) := hr
      have FE : Hid (Blk wr (w.heap.size + 1) [.int .i64 0, .int .i64 (kdU x k), .int .i64 0, .int .i64 0, .int .i64 0]) := he
      have FB : Hid (Below w.heap.size w wr) := hb
      have c1 := (FB.out.cell (p := ⟨g, 1, none⟩) hg).trans (HC.out 1 x hx)
      have lr := FE.out.lt
      clear hr he hb
      by_cases h5 : k ≤ 5
      · have hk6i : (k : Int) < 6 := by omega
        have hq := toList_eq_iff (evW (k : Int)) x
        have hiff := kdW_iff x k hk1 h5
        by_cases hkx : kdW x = k
        · rw [decide_eq_true (hiff.2 hkx)] at hq
          have HU : Hid (kdU x (k + 1) = k) := kdU_hit hkx
          clear hiff hkx hx
          go_upto_region 7 with fail
          go_region_with (go_at_call 25; refine (l10Words_any _).mono ?_; rintro e w2 ⟨gq, rfl, hwd, hgq, hb⟩; have cq := hwd.c k (by omega); have c1 : w2.cell? ⟨g, 1, none⟩ = some (.string x) := (hb.cell (p := ⟨g, 1, none⟩) (by have := FB.out.size; simp; omega)).trans (by simpa using c1); have FR : Hid (Blk w2 w.heap.size [.int .i64 0, .int .i64 0, .int .i64 0, .int .i64 0, .int .i64 0]) := (by first | exact FR.out.below hb FR.out.lt | exact FR.out.drew.below hb FR.out.lt); have FE : Hid (Blk w2 (w.heap.size + 1) [.int .i64 0, .int .i64 (kdU x k), .int .i64 0, .int .i64 0, .int .i64 0]) := (by first | exact FE.out.below hb FE.out.lt | exact FE.out.drew.below hb FE.out.lt); have FB : Hid (Below w.heap.size w w2) := (by first | exact FB.out.trans (hb.mono FB.out.size) | exact FB.out.drew.trans (hb.mono FB.out.size)); clear hwd hgq hb)
          all_goals (have f1 := FE.out.f 1 (by simp); have y1 := FE.out.c 1 _ rfl)
          all_goals (go_wp2_with fail)
          all_goals (go_roundw)
          all_goals first
            | (case rel => exact ⟨k + 1, by simp, by omega, by omega, (by first | exact FR.out.other (by omega) | exact FR.out.drew.other (by omega)), by rw [HU.out]; first | exact FE.out.set _ (by simp) | exact FE.out.drew.set _ (by simp), (by first | exact FB.out.setCell (p := ⟨w.heap.size + 1, 1, none⟩) (show w.heap.size ≤ w.heap.size + 1 by omega) _ | exact FB.out.drew.setCell (p := ⟨w.heap.size + 1, 1, none⟩) (show w.heap.size ≤ w.heap.size + 1 by omega) _)⟩)
            | (case measure => simp [intOf]; omega)
        · rw [decide_eq_false (fun e => hkx (hiff.1 e))] at hq
          have HU : Hid (kdU x (k + 1) = kdU x k) := kdU_miss hkx
          clear hiff hkx hx
          go_upto_region 7 with fail
          go_region_with (go_at_call 25; refine (l10Words_any _).mono ?_; rintro e w2 ⟨gq, rfl, hwd, hgq, hb⟩; have cq := hwd.c k (by omega); have c1 : w2.cell? ⟨g, 1, none⟩ = some (.string x) := (hb.cell (p := ⟨g, 1, none⟩) (by have := FB.out.size; simp; omega)).trans (by simpa using c1); have FR : Hid (Blk w2 w.heap.size [.int .i64 0, .int .i64 0, .int .i64 0, .int .i64 0, .int .i64 0]) := (by first | exact FR.out.below hb FR.out.lt | exact FR.out.drew.below hb FR.out.lt); have FE : Hid (Blk w2 (w.heap.size + 1) [.int .i64 0, .int .i64 (kdU x k), .int .i64 0, .int .i64 0, .int .i64 0]) := (by first | exact FE.out.below hb FE.out.lt | exact FE.out.drew.below hb FE.out.lt); have FB : Hid (Below w.heap.size w w2) := (by first | exact FB.out.trans (hb.mono FB.out.size) | exact FB.out.drew.trans (hb.mono FB.out.size)); clear hwd hgq hb)
          all_goals (go_wp2_with fail)
          all_goals (go_roundw)
          all_goals first
            | (case rel => exact ⟨k + 1, by simp, by omega, by omega, (by first | exact FR.out | exact FR.out.drew), by rw [HU.out]; first | exact FE.out | exact FE.out.drew, (by first | exact FB.out | exact FB.out.drew)⟩)
            | (case measure => simp [intOf]; omega)
      · obtain rfl : k = 6 := by omega
        have e6 : kdU x 6 = kdW x := by unfold kdU; exact if_pos (by omega)
        rw [e6] at FE
        obtain ⟨kd, hkd⟩ : ∃ kd, kdW x = kd := ⟨_, rfl⟩
        rw [hkd] at FE kb
        have y1 := FE.out.c 1 _ rfl
        clear e6 c1
        by_cases k0 : kd = 0
        · have HN : Hid (rdE ws = none) := rdE_kd hx (by rw [hkd, k0])
          subst k0
          clear hkd hx
          go_wp2_with (first | (refine load_blk 37 _ Tryz.underlying37 (by kernel_rfl) FE.out rfl rfl rfl ?_) | (refine store_blk [.int .i64 0, .int .i64 0, .int .i64 0, .int .i64 0, .int .i64 0] 37 _ _ (by kernel_rfl) (by kernel_rfl) (by kernel_rfl) FR.out rfl rfl rfl rfl ?_))
          rw [HN.out]
          have G := FR.out.row [.int .i64 0, .int .i64 0, .int .i64 0, .int .i64 0, .int .i64 0]
          obtain ⟨Wf, hWf⟩ : ∃ Wf, wr.setRow w.heap.size [.int .i64 0, .int .i64 0, .int .i64 0, .int .i64 0, .int .i64 0].toArray = Wf := ⟨_, rfl⟩
          have hB : Below w.heap.size w Wf := hWf ▸ below_row FB.out (Nat.le_refl _) _
          rw [hWf] at G ⊢
          have g0_ := G.c 0 _ rfl
          have g1_ := G.c 1 _ rfl
          have g2_ := G.c 2 _ rfl
          have g3_ := G.c 3 _ rfl
          have g4_ := G.c 4 _ rfl
          exact bodyPost_ret (v := .tuple #[.agg #[.int .i64 0, .int .i64 0, .int .i64 0, .int .i64 0, .int .i64 0], .bool false]) (by simp [results, Tryz.results12, go_sem, g0_, g1_, g2_, g3_, g4_]) rfl ⟨⟨⟨0, 0, 0, 0, 0⟩, rfl, fun ev q => by cases q⟩, hB⟩
        · have b0 : (kd == 0) = false := by simpa using k0
          by_cases k1 : kd = 1
          · subst k1
            by_cases hn : n = 5
            · have hne : ((n : Int) == 5) = true := by simp; omega
              obtain ⟨i0, qI⟩ := info_parts info64
              have hI : Hid (Tryz.prog.info? 2 = some i0 ∧ i0.zero = some (.int .i64 0) ∧ i0.size = 1 ∧ i0.bytes = 8) := qI
              clear qI
              have hdl := dl_len ws (by omega)
              have D0 := dl_zero (l := ws) (by omega)
              have D1 := dl_succ (l := ws) (by omega)
              obtain ⟨D, hD⟩ : ∃ D, dl ws = D := ⟨_, rfl⟩
              have HS : Hid ((∀ (j : Nat) y, D[j]? = some y → ∃ u, numS y = some u) → rdE ws = some { tk := nv D 0, kd := 1, id := nv D 1, fl := nv D 2, tw := nv D 3 }) := by
                intro q
                have r := rdE_some hx (by omega) (by rw [hkd]; omega) (by rw [hkd]; simp [evN, *] <;> omega) (by rw [hD]; exact q)
                rw [hkd, hD] at r
                exact r
              have HNN : Hid (∀ (j : Nat) y, D[j]? = some y → numS y = none → rdE ws = none) := fun j y a b => rdE_num (j := j) (by rw [hD]; exact a) b
              rw [hD] at hdl D0 D1
              have HDL : Hid (D.length = 4) := by show _ = _; omega
              have HD0 : Hid (D[0]? = ws[0]?) := D0
              have HD1 : Hid (∀ j, D[j + 1]? = ws[j + 2]?) := D1
              have HN5 : Hid (n = 5) := hn
              clear hD D0 D1 hkd hx hdl
              go_wp2_with fail
              clear hn
              go_loopw [7, 8] (fun vv ii wr2 => ∃ (i : Nat) (v : Value), vv = v ∧ ii = .int .i64 (i : Int) ∧ i ≤ 5 ∧ OwI wr2 (w.heap.size + 2) v (nvL D (cntI i)) ∧ (∀ (j : Nat) y, j < cntI i → D[j]? = some y → ∃ u, numS y = some u) ∧ Blk wr2 w.heap.size [.int .i64 0, .int .i64 0, .int .i64 0, .int .i64 0, .int .i64 0] ∧ Blk wr2 (w.heap.size + 1) [.int .i64 0, .int .i64 1, .int .i64 0, .int .i64 0, .int .i64 0] ∧ Below w.heap.size w wr2) (fun _ ii _ => 5 - (intOf ii).toNat)
              case atStart => exact ⟨0, _, rfl, rfl, by omega, World.ownsRow_lit (base := w.heap.size + 2) (e := 2) (size := 1) wr #[] 0 FE.out.lt (by unfold maxLen; omega) rfl, fun j y hj => by simp [cntI] at hj, FR.out.alloc _, FE.out.alloc _, FB.out.alloc FB.out.size _⟩
              case round =>
                obtain ⟨i, v, hvv, rfl, hi, ho, hall, hr, he, hb⟩ := hrel
                have hvv' := hvv.symm
                subst hvv'
                clear FR FE FB y1
                have FO : Hid (OwI wr (w.heap.size + 2) v (nvL D (cntI i))) := ho
                have FR : Hid (Blk wr w.heap.size [.int .i64 0, .int .i64 0, .int .i64 0, .int .i64 0, .int .i64 0]) := hr
                have FE : Hid (Blk wr (w.heap.size + 1) [.int .i64 0, .int .i64 1, .int .i64 0, .int .i64 0, .int .i64 0]) := he
                have FB : Hid (Below w.heap.size w wr) := hb
                have HA : Hid (∀ (j : Nat) y, j < cntI i → D[j]? = some y → ∃ u, numS y = some u) := hall
                have lz : w.heap.size + 2 ≤ wr.heap.size := FE.out.lt
                clear ho hr he hb hall
                by_cases hlt : i < 5
                · have hli : (i : Int) < n := by have := HN5.out; omega
                  by_cases h1 : i = 1
                  · subst h1
                    go_wp2_with fail
                    go_roundw
                    case rel => exact ⟨2, v, rfl, by simp, by omega, FO.out, HA.out, FR.out, FE.out, FB.out⟩
                    case measure => simp [intOf]
                  · have h1b : ((i : Int) == 1) = false := by simp; omega
                    obtain ⟨y, hy⟩ : ∃ y, ws[i]? = some y := ⟨_, List.getElem?_eq_getElem (by have := HNL.out; have := HN5.out; omega)⟩
                    have c0 := (FB.out.cell (p := ⟨g, i, none⟩) hg).trans (HC.out i y hy)
                    have CN := l9Number_any y (hsz y (List.mem_of_getElem? hy))
                    have DI : D[cntI i]? = some y := by
                      unfold cntI
                      by_cases q : i = 0
                      · subst q; exact HD0.out.trans hy
                      · rw [if_neg (by omega)]
                        have q2 := HD1.out (i - 2)
                        rw [show i - 2 + 1 = i - 1 by omega, show i - 2 + 2 = i by omega] at q2
                        exact q2.trans hy
                    have ec : cntI (i + 1) = cntI i + 1 := by unfold cntI; split <;> split <;> omega
                    cases hu : numS y with
                    | none =>
                      rw [hu] at CN
                      have HN : Hid (rdE ws = none) := HNN.out _ y DI hu
                      have CN2 : ∀ W, Calls Tryz.prog 26 #[.string y] W fun e w' => e = .returned (.tuple #[.int .i64 0, .bool false]) ∧ w' = W := CN
                      clear CN DI hy hu ec
                      go_wp2_with (first | (go_at_call 26; refine (CN2 _).mono ?_; rintro e w3 ⟨rfl, hw⟩; rw [hw]; clear hw) | (refine load_blk 37 _ Tryz.underlying37 (by kernel_rfl) FE.out rfl rfl rfl ?_) | (refine store_blk [.int .i64 0, .int .i64 1, .int .i64 0, .int .i64 0, .int .i64 0] 37 _ _ (by kernel_rfl) (by kernel_rfl) (by kernel_rfl) FR.out rfl rfl rfl rfl ?_))
                      rw [HN.out]
                      have G := FR.out.row [.int .i64 0, .int .i64 1, .int .i64 0, .int .i64 0, .int .i64 0]
                      obtain ⟨Wf, hWf⟩ : ∃ Wf, wr.setRow w.heap.size [.int .i64 0, .int .i64 1, .int .i64 0, .int .i64 0, .int .i64 0].toArray = Wf := ⟨_, rfl⟩
                      have hB : Below w.heap.size w Wf := hWf ▸ below_row FB.out (Nat.le_refl _) _
                      rw [hWf] at G ⊢
                      have g0_ := G.c 0 _ rfl
                      have g1_ := G.c 1 _ rfl
                      have g2_ := G.c 2 _ rfl
                      have g3_ := G.c 3 _ rfl
                      have g4_ := G.c 4 _ rfl
                      exact bodyPost_ret (v := .tuple #[.agg #[.int .i64 0, .int .i64 1, .int .i64 0, .int .i64 0, .int .i64 0], .bool false]) (by simp [results, Tryz.results12, go_sem, g0_, g1_, g2_, g3_, g4_]) rfl ⟨⟨⟨0, 1, 0, 0, 0⟩, rfl, fun ev q => by cases q⟩, hB⟩
                    | some u =>
                      rw [hu] at CN
                      have CN2 : ∀ W, Calls Tryz.prog 26 #[.string y] W fun e w' => e = .returned (.tuple #[.int .i64 (u : Int), .bool true]) ∧ w' = W := CN
                      have HU : Hid (nvL D (cntI (i + 1)) = nvL D (cntI i) ++ [(u : Int)]) := by rw [ec, nvL_snoc, nv_at DI hu]; exact rfl
                      have HA2 : Hid (∀ (j : Nat) y, j < cntI (i + 1) → D[j]? = some y → ∃ u, numS y = some u) := fun j y' hj hy' => by
                        rw [ec] at hj
                        rcases Nat.lt_or_ge j (cntI i) with c | c
                        · exact HA.out j y' c hy'
                        · obtain rfl : j = cntI i := by omega
                          rw [DI] at hy'; cases hy'; exact ⟨u, hu⟩
                      have hcl := nvL_len D (cntI i)
                      have hc5 : cntI i ≤ 5 := by unfold cntI; split <;> omega
                      obtain ⟨acc, hacc⟩ : ∃ acc, nvL D (cntI i) = acc := ⟨_, rfl⟩
                      rw [hacc] at HU FO hcl
                      have hal : acc.length ≤ 5 := by omega
                      clear CN DI hy hu ec hacc HA hcl hc5
                      go_wp2_with (first | (go_at_call 26; refine (CN2 _).mono ?_; rintro e w3 ⟨rfl, hw⟩; rw [hw]; clear hw) | (at_builtin; go_loud (refine wpList_append_own _ rfl _ _ 54 rfl (w.heap.size + 2) 2 i0 (.int .i64 0) 1 8 undI64S hI.out.1 hI.out.2.1 hI.out.2.2.1 hI.out.2.2.2 rfl (by omega) _ acc.length _ rfl (FO.out.alloc _) ⟨wr.heap.size, 0, none⟩ 1 1 [.int .i64 (u : Int)] rfl rfl (one_new wr (u : Int) _) (one_cell (u : Int)) (by unfold maxLen; omega) (by omega) (by simp; omega) ?_); intro v1 w3 ho hgr hnn; have FO3 : Hid (OwI w3 (w.heap.size + 2) v1 (acc ++ [(u : Int)])) := intsV_app ho; have nb : ∀ k, k < w.heap.size + 2 → some k ≠ v.ownBlock := fun k hk e => absurd (FO.out.lt k e.symm).1 (by omega); have FR3 : Hid (Blk w3 w.heap.size [.int .i64 0, .int .i64 0, .int .i64 0, .int .i64 0, .int .i64 0]) := (FR.out.alloc _).grown hgr (nb _ (by omega)); have FE3 : Hid (Blk w3 (w.heap.size + 1) [.int .i64 0, .int .i64 1, .int .i64 0, .int .i64 0, .int .i64 0]) := (FE.out.alloc _).grown hgr (nb _ (by omega)); have FB3 : Hid (Below w.heap.size w w3) := (FB.out.alloc FB.out.size _).grown hgr (by simp; omega) (fun k hk => Nat.le_trans (by omega) (FO.out.lt k hk).1); clear ho hgr hnn nb))
                      go_roundw
                      case rel =>
                        (repeat apply Exists.intro)
                        refine ⟨⟨i + 1, v1, rfl, (by simp : Value.int .i64 ((i : Int) + 1) = .int .i64 ((i + 1 : Nat) : Int)), by omega, by rw [HU.out]; exact FO3.out, HA2.out, FR3.out, FE3.out, FB3.out⟩, ?_⟩
                        rfl
                      case measure => simp [intOf]; omega
                · have hge : ¬ ((i : Int) < n) := by have := HN5.out; omega
                  obtain rfl : i = 5 := by omega
                  have ec : cntI 5 = 4 := rfl
                  rw [ec] at FO HA
                  have HR : Hid (rdE ws = some { tk := nv D 0, kd := 1, id := nv D 1, fl := nv D 2, tw := nv D 3 }) := HS.out fun j y hy => HA.out j y (by have := HDL.out; have := (List.getElem?_eq_some_iff.1 hy).1; omega) hy
                  have A0 : Hid ((nvL D 4 ++ [0, 0])[0]? = some (nv D 0)) := nvL_at (Nat.le_of_eq HDL.out) (by omega)
                  have A1 : Hid ((nvL D 4 ++ [0, 0])[1]? = some (nv D 1)) := nvL_at (Nat.le_of_eq HDL.out) (by omega)
                  have A2 : Hid ((nvL D 4 ++ [0, 0])[2]? = some (nv D 2)) := nvL_at (Nat.le_of_eq HDL.out) (by omega)
                  have A3 : Hid ((nvL D 4 ++ [0, 0])[3]? = some (nv D 3)) := nvL_at (Nat.le_of_eq HDL.out) (by omega)
                  have AL : Hid ((nvL D 4 ++ [0, 0]).length = 6) := by show _ = _; rw [List.length_append, nvL_len]; rfl
                  have hal : (nvL D 4).length ≤ 5 := by rw [nvL_len]; omega
                  obtain ⟨acc, hacc⟩ : ∃ acc, nvL D 4 = acc := ⟨_, rfl⟩
                  rw [hacc] at FO A0 A1 A2 A3 AL hal
                  obtain ⟨a0, e0⟩ : ∃ a, nv D 0 = a := ⟨_, rfl⟩
                  obtain ⟨a1, e1⟩ : ∃ a, nv D 1 = a := ⟨_, rfl⟩
                  obtain ⟨a2, e2⟩ : ∃ a, nv D 2 = a := ⟨_, rfl⟩
                  obtain ⟨a3, e3⟩ : ∃ a, nv D 3 = a := ⟨_, rfl⟩
                  rw [e0] at A0 HR
                  rw [e1] at A1 HR
                  rw [e2] at A2 HR
                  rw [e3] at A3 HR
                  clear HA HS HNN e0 e1 e2 e3 hacc ec
                  go_upto_region 26 with (at_builtin; go_loud (refine wpList_append_own _ rfl _ _ 54 rfl (w.heap.size + 2) 2 i0 (.int .i64 0) 1 8 undI64S hI.out.1 hI.out.2.1 hI.out.2.2.1 hI.out.2.2.2 rfl (by omega) _ acc.length _ rfl (FO.out.alloc _) ⟨wr.heap.size, 0, none⟩ 2 2 [.int .i64 0, .int .i64 0] rfl rfl (two_new wr 0 0 _) (two_cell 0 0) (by unfold maxLen; omega) (by omega) (by simp; omega) ?_); intro v1 w3 ho hgr hnn; have FO3 : Hid (OwI w3 (w.heap.size + 2) v1 (acc ++ [0, 0])) := intsV_app2 ho; have nb : ∀ k, k < w.heap.size + 2 → some k ≠ v.ownBlock := fun k hk e => absurd (FO.out.lt k e.symm).1 (by omega); have FR3 : Hid (Blk w3 w.heap.size [.int .i64 0, .int .i64 0, .int .i64 0, .int .i64 0, .int .i64 0]) := (FR.out.alloc _).grown hgr (nb _ (by omega)); have FE3 : Hid (Blk w3 (w.heap.size + 1) [.int .i64 0, .int .i64 1, .int .i64 0, .int .i64 0, .int .i64 0]) := (FE.out.alloc _).grown hgr (nb _ (by omega)); have FB3 : Hid (Below w.heap.size w w3) := (FB.out.alloc FB.out.size _).grown hgr (by simp; omega) (fun k hk => Nat.le_trans (by omega) (FO.out.lt k hk).1); clear ho hgr hnn nb)
                  clear FR FE FB FO
                  obtain ⟨g2, c2, rfl, hg2, hg2l⟩ := FO3.out.four AL.out (by omega)
                  have f0 := FE3.out.f 0 (by simp)
                  have y0 := FE3.out.c 0 _ rfl
                  have f2 := FE3.out.f 2 (by simp)
                  have y2 := FE3.out.c 2 _ rfl
                  have f3 := FE3.out.f 3 (by simp)
                  have y3 := FE3.out.c 3 _ rfl
                  have f4 := FE3.out.f 4 (by simp)
                  have y4 := FE3.out.c 4 _ rfl
                  have hgb : ¬ g2 = w.heap.size + 1 := by omega
                  have hgb2 : ¬ w.heap.size + 1 = g2 := by omega
                  have k0_ := (FO3.out.cell A0.out)
                  go_upto_region 27 with fail
                  have FE3 : Hid (Blk (w3.setCell ⟨w.heap.size + 1, 0, none⟩ (.int .i64 a0)) (w.heap.size + 1) [.int .i64 a0, .int .i64 1, .int .i64 0, .int .i64 0, .int .i64 0]) := FE3.out.set (k := 0) (.int .i64 a0) (by simp)
                  have FR3 : Hid (Blk (w3.setCell ⟨w.heap.size + 1, 0, none⟩ (.int .i64 a0)) w.heap.size [.int .i64 0, .int .i64 0, .int .i64 0, .int .i64 0, .int .i64 0]) := FR3.out.other (by simp)
                  have FO3 : Hid (OwI (w3.setCell ⟨w.heap.size + 1, 0, none⟩ (.int .i64 a0)) (w.heap.size + 2) (.slice (some ⟨g2, 0, none⟩) 6 c2) (acc ++ [0, 0])) := FO3.out.other (by simpa [Value.ownBlock] using hgb) _
                  have FB3 : Hid (Below w.heap.size w (w3.setCell ⟨w.heap.size + 1, 0, none⟩ (.int .i64 a0))) := FB3.out.setCell (p := ⟨w.heap.size + 1, 0, none⟩) (show w.heap.size ≤ w.heap.size + 1 by omega) _
                  obtain ⟨s0, hs0⟩ : ∃ s, w3.setCell ⟨w.heap.size + 1, 0, none⟩ (.int .i64 a0) = s := ⟨_, rfl⟩
                  rw [hs0] at FE3 FR3 FO3 FB3 ⊢
                  clear k0_ hs0 f0 f2 f3 f4 y0 y2 y3 y4
                  have f0 := FE3.out.f 0 (by simp)
                  have y0 := FE3.out.c 0 _ rfl
                  have f2 := FE3.out.f 2 (by simp)
                  have y2 := FE3.out.c 2 _ rfl
                  have f3 := FE3.out.f 3 (by simp)
                  have y3 := FE3.out.c 3 _ rfl
                  have f4 := FE3.out.f 4 (by simp)
                  have y4 := FE3.out.c 4 _ rfl
                  have k1_ := (FO3.out.cell A1.out)
                  go_upto_region 28 with fail
                  have FE3 : Hid (Blk (s0.setCell ⟨w.heap.size + 1, 2, none⟩ (.int .i64 a1)) (w.heap.size + 1) [.int .i64 a0, .int .i64 1, .int .i64 a1, .int .i64 0, .int .i64 0]) := FE3.out.set (k := 2) (.int .i64 a1) (by simp)
                  have FR3 : Hid (Blk (s0.setCell ⟨w.heap.size + 1, 2, none⟩ (.int .i64 a1)) w.heap.size [.int .i64 0, .int .i64 0, .int .i64 0, .int .i64 0, .int .i64 0]) := FR3.out.other (by simp)
                  have FO3 : Hid (OwI (s0.setCell ⟨w.heap.size + 1, 2, none⟩ (.int .i64 a1)) (w.heap.size + 2) (.slice (some ⟨g2, 0, none⟩) 6 c2) (acc ++ [0, 0])) := FO3.out.other (by simpa [Value.ownBlock] using hgb) _
                  have FB3 : Hid (Below w.heap.size w (s0.setCell ⟨w.heap.size + 1, 2, none⟩ (.int .i64 a1))) := FB3.out.setCell (p := ⟨w.heap.size + 1, 2, none⟩) (show w.heap.size ≤ w.heap.size + 1 by omega) _
                  obtain ⟨s1, hs1⟩ : ∃ s, s0.setCell ⟨w.heap.size + 1, 2, none⟩ (.int .i64 a1) = s := ⟨_, rfl⟩
                  rw [hs1] at FE3 FR3 FO3 FB3 ⊢
                  clear k1_ hs1 f0 f2 f3 f4 y0 y2 y3 y4
                  have f0 := FE3.out.f 0 (by simp)
                  have y0 := FE3.out.c 0 _ rfl
                  have f2 := FE3.out.f 2 (by simp)
                  have y2 := FE3.out.c 2 _ rfl
                  have f3 := FE3.out.f 3 (by simp)
                  have y3 := FE3.out.c 3 _ rfl
                  have f4 := FE3.out.f 4 (by simp)
                  have y4 := FE3.out.c 4 _ rfl
                  have k2_ := (FO3.out.cell A2.out)
                  go_upto_region 29 with fail
                  have FE3 : Hid (Blk (s1.setCell ⟨w.heap.size + 1, 3, none⟩ (.int .i64 a2)) (w.heap.size + 1) [.int .i64 a0, .int .i64 1, .int .i64 a1, .int .i64 a2, .int .i64 0]) := FE3.out.set (k := 3) (.int .i64 a2) (by simp)
                  have FR3 : Hid (Blk (s1.setCell ⟨w.heap.size + 1, 3, none⟩ (.int .i64 a2)) w.heap.size [.int .i64 0, .int .i64 0, .int .i64 0, .int .i64 0, .int .i64 0]) := FR3.out.other (by simp)
                  have FO3 : Hid (OwI (s1.setCell ⟨w.heap.size + 1, 3, none⟩ (.int .i64 a2)) (w.heap.size + 2) (.slice (some ⟨g2, 0, none⟩) 6 c2) (acc ++ [0, 0])) := FO3.out.other (by simpa [Value.ownBlock] using hgb) _
                  have FB3 : Hid (Below w.heap.size w (s1.setCell ⟨w.heap.size + 1, 3, none⟩ (.int .i64 a2))) := FB3.out.setCell (p := ⟨w.heap.size + 1, 3, none⟩) (show w.heap.size ≤ w.heap.size + 1 by omega) _
                  obtain ⟨s2, hs2⟩ : ∃ s, s1.setCell ⟨w.heap.size + 1, 3, none⟩ (.int .i64 a2) = s := ⟨_, rfl⟩
                  rw [hs2] at FE3 FR3 FO3 FB3 ⊢
                  clear k2_ hs2 f0 f2 f3 f4 y0 y2 y3 y4
                  have f0 := FE3.out.f 0 (by simp)
                  have y0 := FE3.out.c 0 _ rfl
                  have f2 := FE3.out.f 2 (by simp)
                  have y2 := FE3.out.c 2 _ rfl
                  have f3 := FE3.out.f 3 (by simp)
                  have y3 := FE3.out.c 3 _ rfl
                  have f4 := FE3.out.f 4 (by simp)
                  have y4 := FE3.out.c 4 _ rfl
                  have k3_ := (FO3.out.cell A3.out)
                  go_upto_region 30 with fail
                  have FE3 : Hid (Blk (s2.setCell ⟨w.heap.size + 1, 4, none⟩ (.int .i64 a3)) (w.heap.size + 1) [.int .i64 a0, .int .i64 1, .int .i64 a1, .int .i64 a2, .int .i64 a3]) := FE3.out.set (k := 4) (.int .i64 a3) (by simp)
                  have FR3 : Hid (Blk (s2.setCell ⟨w.heap.size + 1, 4, none⟩ (.int .i64 a3)) w.heap.size [.int .i64 0, .int .i64 0, .int .i64 0, .int .i64 0, .int .i64 0]) := FR3.out.other (by simp)
                  have FO3 : Hid (OwI (s2.setCell ⟨w.heap.size + 1, 4, none⟩ (.int .i64 a3)) (w.heap.size + 2) (.slice (some ⟨g2, 0, none⟩) 6 c2) (acc ++ [0, 0])) := FO3.out.other (by simpa [Value.ownBlock] using hgb) _
                  have FB3 : Hid (Below w.heap.size w (s2.setCell ⟨w.heap.size + 1, 4, none⟩ (.int .i64 a3))) := FB3.out.setCell (p := ⟨w.heap.size + 1, 4, none⟩) (show w.heap.size ≤ w.heap.size + 1 by omega) _
                  obtain ⟨s3, hs3⟩ : ∃ s, s2.setCell ⟨w.heap.size + 1, 4, none⟩ (.int .i64 a3) = s := ⟨_, rfl⟩
                  rw [hs3] at FE3 FR3 FO3 FB3 ⊢
                  clear k3_ hs3 f0 f2 f3 f4 y0 y2 y3 y4
                  have f0 := FE3.out.f 0 (by simp)
                  have y0 := FE3.out.c 0 _ rfl
                  have f2 := FE3.out.f 2 (by simp)
                  have y2 := FE3.out.c 2 _ rfl
                  have f3 := FE3.out.f 3 (by simp)
                  have y3 := FE3.out.c 3 _ rfl
                  have f4 := FE3.out.f 4 (by simp)
                  have y4 := FE3.out.c 4 _ rfl
                  go_wp2_with (first | (refine load_blk 37 _ Tryz.underlying37 (by kernel_rfl) FE3.out rfl rfl rfl ?_) | (refine store_blk [.int .i64 a0, .int .i64 1, .int .i64 a1, .int .i64 a2, .int .i64 a3] 37 _ _ (by kernel_rfl) (by kernel_rfl) (by kernel_rfl) FR3.out rfl rfl rfl rfl ?_))
                  rw [HR.out]
                  have G := FR3.out.row [.int .i64 a0, .int .i64 1, .int .i64 a1, .int .i64 a2, .int .i64 a3]
                  obtain ⟨Wf, hWf⟩ : ∃ Wf, s3.setRow w.heap.size [.int .i64 a0, .int .i64 1, .int .i64 a1, .int .i64 a2, .int .i64 a3].toArray = Wf := ⟨_, rfl⟩
                  have hB : Below w.heap.size w Wf := hWf ▸ below_row FB3.out (Nat.le_refl _) _
                  rw [hWf] at G ⊢
                  have g0_ := G.c 0 _ rfl
                  have g1_ := G.c 1 _ rfl
                  have g2_ := G.c 2 _ rfl
                  have g3_ := G.c 3 _ rfl
                  have g4_ := G.c 4 _ rfl
                  exact bodyPost_ret (v := .tuple #[.agg #[.int .i64 a0, .int .i64 1, .int .i64 a1, .int .i64 a2, .int .i64 a3], .bool true]) (by simp [results, Tryz.results12, go_sem, g0_, g1_, g2_, g3_, g4_]) rfl ⟨⟨⟨a0, 1, a1, a2, a3⟩, rfl, fun ev q => by cases q; rfl⟩, hB⟩
            · have hne : ((n : Int) == 5) = false := by simp; omega
              have HN : Hid (rdE ws = none) := rdE_ln hx (by rw [hkd]; simp [evN, *] <;> omega)
              go_wp2_with (first | (refine load_blk 37 _ Tryz.underlying37 (by kernel_rfl) FE.out rfl rfl rfl ?_) | (refine store_blk [.int .i64 0, .int .i64 1, .int .i64 0, .int .i64 0, .int .i64 0] 37 _ _ (by kernel_rfl) (by kernel_rfl) (by kernel_rfl) FR.out rfl rfl rfl rfl ?_))
              rw [HN.out]
              have G := FR.out.row [.int .i64 0, .int .i64 1, .int .i64 0, .int .i64 0, .int .i64 0]
              obtain ⟨Wf, hWf⟩ : ∃ Wf, wr.setRow w.heap.size [.int .i64 0, .int .i64 1, .int .i64 0, .int .i64 0, .int .i64 0].toArray = Wf := ⟨_, rfl⟩
              have hB : Below w.heap.size w Wf := hWf ▸ below_row FB.out (Nat.le_refl _) _
              rw [hWf] at G ⊢
              have g0_ := G.c 0 _ rfl
              have g1_ := G.c 1 _ rfl
              have g2_ := G.c 2 _ rfl
              have g3_ := G.c 3 _ rfl
              have g4_ := G.c 4 _ rfl
              exact bodyPost_ret (v := .tuple #[.agg #[.int .i64 0, .int .i64 1, .int .i64 0, .int .i64 0, .int .i64 0], .bool false]) (by simp [results, Tryz.results12, go_sem, g0_, g1_, g2_, g3_, g4_]) rfl ⟨⟨⟨0, 1, 0, 0, 0⟩, rfl, fun ev q => by cases q⟩, hB⟩
          · by_cases k5 : kd = 5
            · subst k5
              by_cases hn : n = 3
              · have hne : ((n : Int) == 3) = true := by simp; omega
                obtain ⟨i0, qI⟩ := info_parts info64
                have hI : Hid (Tryz.prog.info? 2 = some i0 ∧ i0.zero = some (.int .i64 0) ∧ i0.size = 1 ∧ i0.bytes = 8) := qI
                clear qI
                have hdl := dl_len ws (by omega)
                have D0 := dl_zero (l := ws) (by omega)
                have D1 := dl_succ (l := ws) (by omega)
                obtain ⟨D, hD⟩ : ∃ D, dl ws = D := ⟨_, rfl⟩
                have HS : Hid ((∀ (j : Nat) y, D[j]? = some y → ∃ u, numS y = some u) → rdE ws = some { tk := nv D 0, kd := 5, id := nv D 1, fl := nv D 2, tw := nv D 3 }) := by
                  intro q
                  have r := rdE_some hx (by omega) (by rw [hkd]; omega) (by rw [hkd]; simp [evN, *] <;> omega) (by rw [hD]; exact q)
                  rw [hkd, hD] at r
                  exact r
                have HNN : Hid (∀ (j : Nat) y, D[j]? = some y → numS y = none → rdE ws = none) := fun j y a b => rdE_num (j := j) (by rw [hD]; exact a) b
                rw [hD] at hdl D0 D1
                have HDL : Hid (D.length = 2) := by show _ = _; omega
                have HD0 : Hid (D[0]? = ws[0]?) := D0
                have HD1 : Hid (∀ j, D[j + 1]? = ws[j + 2]?) := D1
                have HN5 : Hid (n = 3) := hn
                clear hD D0 D1 hkd hx hdl
                go_wp2_with fail
                clear hn
                go_loopw [7, 8] (fun vv ii wr2 => ∃ (i : Nat) (v : Value), vv = v ∧ ii = .int .i64 (i : Int) ∧ i ≤ 3 ∧ OwI wr2 (w.heap.size + 2) v (nvL D (cntI i)) ∧ (∀ (j : Nat) y, j < cntI i → D[j]? = some y → ∃ u, numS y = some u) ∧ Blk wr2 w.heap.size [.int .i64 0, .int .i64 0, .int .i64 0, .int .i64 0, .int .i64 0] ∧ Blk wr2 (w.heap.size + 1) [.int .i64 0, .int .i64 5, .int .i64 0, .int .i64 0, .int .i64 0] ∧ Below w.heap.size w wr2) (fun _ ii _ => 3 - (intOf ii).toNat)
                case atStart => exact ⟨0, _, rfl, rfl, by omega, World.ownsRow_lit (base := w.heap.size + 2) (e := 2) (size := 1) wr #[] 0 FE.out.lt (by unfold maxLen; omega) rfl, fun j y hj => by simp [cntI] at hj, FR.out.alloc _, FE.out.alloc _, FB.out.alloc FB.out.size _⟩
                case round =>
                  obtain ⟨i, v, hvv, rfl, hi, ho, hall, hr, he, hb⟩ := hrel
                  have hvv' := hvv.symm
                  subst hvv'
                  clear FR FE FB y1
                  have FO : Hid (OwI wr (w.heap.size + 2) v (nvL D (cntI i))) := ho
                  have FR : Hid (Blk wr w.heap.size [.int .i64 0, .int .i64 0, .int .i64 0, .int .i64 0, .int .i64 0]) := hr
                  have FE : Hid (Blk wr (w.heap.size + 1) [.int .i64 0, .int .i64 5, .int .i64 0, .int .i64 0, .int .i64 0]) := he
                  have FB : Hid (Below w.heap.size w wr) := hb
                  have HA : Hid (∀ (j : Nat) y, j < cntI i → D[j]? = some y → ∃ u, numS y = some u) := hall
                  have lz : w.heap.size + 2 ≤ wr.heap.size := FE.out.lt
                  clear ho hr he hb hall
                  by_cases hlt : i < 3
                  · have hli : (i : Int) < n := by have := HN5.out; omega
                    by_cases h1 : i = 1
                    · subst h1
                      go_wp2_with fail
                      go_roundw
                      case rel => exact ⟨2, v, rfl, by simp, by omega, FO.out, HA.out, FR.out, FE.out, FB.out⟩
                      case measure => simp [intOf]
                    · have h1b : ((i : Int) == 1) = false := by simp; omega
                      obtain ⟨y, hy⟩ : ∃ y, ws[i]? = some y := ⟨_, List.getElem?_eq_getElem (by have := HNL.out; have := HN5.out; omega)⟩
                      have c0 := (FB.out.cell (p := ⟨g, i, none⟩) hg).trans (HC.out i y hy)
                      have CN := l9Number_any y (hsz y (List.mem_of_getElem? hy))
                      have DI : D[cntI i]? = some y := by
                        unfold cntI
                        by_cases q : i = 0
                        · subst q; exact HD0.out.trans hy
                        · rw [if_neg (by omega)]
                          have q2 := HD1.out (i - 2)
                          rw [show i - 2 + 1 = i - 1 by omega, show i - 2 + 2 = i by omega] at q2
                          exact q2.trans hy
                      have ec : cntI (i + 1) = cntI i + 1 := by unfold cntI; split <;> split <;> omega
                      cases hu : numS y with
                      | none =>
                        rw [hu] at CN
                        have HN : Hid (rdE ws = none) := HNN.out _ y DI hu
                        have CN2 : ∀ W, Calls Tryz.prog 26 #[.string y] W fun e w' => e = .returned (.tuple #[.int .i64 0, .bool false]) ∧ w' = W := CN
                        clear CN DI hy hu ec
                        go_wp2_with (first | (go_at_call 26; refine (CN2 _).mono ?_; rintro e w3 ⟨rfl, hw⟩; rw [hw]; clear hw) | (refine load_blk 37 _ Tryz.underlying37 (by kernel_rfl) FE.out rfl rfl rfl ?_) | (refine store_blk [.int .i64 0, .int .i64 5, .int .i64 0, .int .i64 0, .int .i64 0] 37 _ _ (by kernel_rfl) (by kernel_rfl) (by kernel_rfl) FR.out rfl rfl rfl rfl ?_))
                        rw [HN.out]
                        have G := FR.out.row [.int .i64 0, .int .i64 5, .int .i64 0, .int .i64 0, .int .i64 0]
                        obtain ⟨Wf, hWf⟩ : ∃ Wf, wr.setRow w.heap.size [.int .i64 0, .int .i64 5, .int .i64 0, .int .i64 0, .int .i64 0].toArray = Wf := ⟨_, rfl⟩
                        have hB : Below w.heap.size w Wf := hWf ▸ below_row FB.out (Nat.le_refl _) _
                        rw [hWf] at G ⊢
                        have g0_ := G.c 0 _ rfl
                        have g1_ := G.c 1 _ rfl
                        have g2_ := G.c 2 _ rfl
                        have g3_ := G.c 3 _ rfl
                        have g4_ := G.c 4 _ rfl
                        exact bodyPost_ret (v := .tuple #[.agg #[.int .i64 0, .int .i64 5, .int .i64 0, .int .i64 0, .int .i64 0], .bool false]) (by simp [results, Tryz.results12, go_sem, g0_, g1_, g2_, g3_, g4_]) rfl ⟨⟨⟨0, 5, 0, 0, 0⟩, rfl, fun ev q => by cases q⟩, hB⟩
                      | some u =>
                        rw [hu] at CN
                        have CN2 : ∀ W, Calls Tryz.prog 26 #[.string y] W fun e w' => e = .returned (.tuple #[.int .i64 (u : Int), .bool true]) ∧ w' = W := CN
                        have HU : Hid (nvL D (cntI (i + 1)) = nvL D (cntI i) ++ [(u : Int)]) := by rw [ec, nvL_snoc, nv_at DI hu]; exact rfl
                        have HA2 : Hid (∀ (j : Nat) y, j < cntI (i + 1) → D[j]? = some y → ∃ u, numS y = some u) := fun j y' hj hy' => by
                          rw [ec] at hj
                          rcases Nat.lt_or_ge j (cntI i) with c | c
                          · exact HA.out j y' c hy'
                          · obtain rfl : j = cntI i := by omega
                            rw [DI] at hy'; cases hy'; exact ⟨u, hu⟩
                        have hcl := nvL_len D (cntI i)
                        have hc5 : cntI i ≤ 5 := by unfold cntI; split <;> omega
                        obtain ⟨acc, hacc⟩ : ∃ acc, nvL D (cntI i) = acc := ⟨_, rfl⟩
                        rw [hacc] at HU FO hcl
                        have hal : acc.length ≤ 5 := by omega
                        clear CN DI hy hu ec hacc HA hcl hc5
                        go_wp2_with (first | (go_at_call 26; refine (CN2 _).mono ?_; rintro e w3 ⟨rfl, hw⟩; rw [hw]; clear hw) | (at_builtin; go_loud (refine wpList_append_own _ rfl _ _ 54 rfl (w.heap.size + 2) 2 i0 (.int .i64 0) 1 8 undI64S hI.out.1 hI.out.2.1 hI.out.2.2.1 hI.out.2.2.2 rfl (by omega) _ acc.length _ rfl (FO.out.alloc _) ⟨wr.heap.size, 0, none⟩ 1 1 [.int .i64 (u : Int)] rfl rfl (one_new wr (u : Int) _) (one_cell (u : Int)) (by unfold maxLen; omega) (by omega) (by simp; omega) ?_); intro v1 w3 ho hgr hnn; have FO3 : Hid (OwI w3 (w.heap.size + 2) v1 (acc ++ [(u : Int)])) := intsV_app ho; have nb : ∀ k, k < w.heap.size + 2 → some k ≠ v.ownBlock := fun k hk e => absurd (FO.out.lt k e.symm).1 (by omega); have FR3 : Hid (Blk w3 w.heap.size [.int .i64 0, .int .i64 0, .int .i64 0, .int .i64 0, .int .i64 0]) := (FR.out.alloc _).grown hgr (nb _ (by omega)); have FE3 : Hid (Blk w3 (w.heap.size + 1) [.int .i64 0, .int .i64 5, .int .i64 0, .int .i64 0, .int .i64 0]) := (FE.out.alloc _).grown hgr (nb _ (by omega)); have FB3 : Hid (Below w.heap.size w w3) := (FB.out.alloc FB.out.size _).grown hgr (by simp; omega) (fun k hk => Nat.le_trans (by omega) (FO.out.lt k hk).1); clear ho hgr hnn nb))
                        go_roundw
                        case rel =>
                          (repeat apply Exists.intro)
                          refine ⟨⟨i + 1, v1, rfl, (by simp : Value.int .i64 ((i : Int) + 1) = .int .i64 ((i + 1 : Nat) : Int)), by omega, by rw [HU.out]; exact FO3.out, HA2.out, FR3.out, FE3.out, FB3.out⟩, ?_⟩
                          rfl
                        case measure => simp [intOf]; omega
                  · have hge : ¬ ((i : Int) < n) := by have := HN5.out; omega
                    obtain rfl : i = 3 := by omega
                    have ec : cntI 3 = 2 := rfl
                    rw [ec] at FO HA
                    have HR : Hid (rdE ws = some { tk := nv D 0, kd := 5, id := nv D 1, fl := nv D 2, tw := nv D 3 }) := HS.out fun j y hy => HA.out j y (by have := HDL.out; have := (List.getElem?_eq_some_iff.1 hy).1; omega) hy
                    have A0 : Hid ((nvL D 2 ++ [0, 0])[0]? = some (nv D 0)) := nvL_at (Nat.le_of_eq HDL.out) (by omega)
                    have A1 : Hid ((nvL D 2 ++ [0, 0])[1]? = some (nv D 1)) := nvL_at (Nat.le_of_eq HDL.out) (by omega)
                    have A2 : Hid ((nvL D 2 ++ [0, 0])[2]? = some (nv D 2)) := nvL_at (Nat.le_of_eq HDL.out) (by omega)
                    have A3 : Hid ((nvL D 2 ++ [0, 0])[3]? = some (nv D 3)) := nvL_at (Nat.le_of_eq HDL.out) (by omega)
                    have AL : Hid ((nvL D 2 ++ [0, 0]).length = 4) := by show _ = _; rw [List.length_append, nvL_len]; rfl
                    have hal : (nvL D 2).length ≤ 5 := by rw [nvL_len]; omega
                    obtain ⟨acc, hacc⟩ : ∃ acc, nvL D 2 = acc := ⟨_, rfl⟩
                    rw [hacc] at FO A0 A1 A2 A3 AL hal
                    obtain ⟨a0, e0⟩ : ∃ a, nv D 0 = a := ⟨_, rfl⟩
                    obtain ⟨a1, e1⟩ : ∃ a, nv D 1 = a := ⟨_, rfl⟩
                    obtain ⟨a2, e2⟩ : ∃ a, nv D 2 = a := ⟨_, rfl⟩
                    obtain ⟨a3, e3⟩ : ∃ a, nv D 3 = a := ⟨_, rfl⟩
                    rw [e0] at A0 HR
                    rw [e1] at A1 HR
                    rw [e2] at A2 HR
                    rw [e3] at A3 HR
                    clear HA HS HNN e0 e1 e2 e3 hacc ec
                    go_upto_region 26 with (at_builtin; go_loud (refine wpList_append_own _ rfl _ _ 54 rfl (w.heap.size + 2) 2 i0 (.int .i64 0) 1 8 undI64S hI.out.1 hI.out.2.1 hI.out.2.2.1 hI.out.2.2.2 rfl (by omega) _ acc.length _ rfl (FO.out.alloc _) ⟨wr.heap.size, 0, none⟩ 2 2 [.int .i64 0, .int .i64 0] rfl rfl (two_new wr 0 0 _) (two_cell 0 0) (by unfold maxLen; omega) (by omega) (by simp; omega) ?_); intro v1 w3 ho hgr hnn; have FO3 : Hid (OwI w3 (w.heap.size + 2) v1 (acc ++ [0, 0])) := intsV_app2 ho; have nb : ∀ k, k < w.heap.size + 2 → some k ≠ v.ownBlock := fun k hk e => absurd (FO.out.lt k e.symm).1 (by omega); have FR3 : Hid (Blk w3 w.heap.size [.int .i64 0, .int .i64 0, .int .i64 0, .int .i64 0, .int .i64 0]) := (FR.out.alloc _).grown hgr (nb _ (by omega)); have FE3 : Hid (Blk w3 (w.heap.size + 1) [.int .i64 0, .int .i64 5, .int .i64 0, .int .i64 0, .int .i64 0]) := (FE.out.alloc _).grown hgr (nb _ (by omega)); have FB3 : Hid (Below w.heap.size w w3) := (FB.out.alloc FB.out.size _).grown hgr (by simp; omega) (fun k hk => Nat.le_trans (by omega) (FO.out.lt k hk).1); clear ho hgr hnn nb)
                    clear FR FE FB FO
                    obtain ⟨g2, c2, rfl, hg2, hg2l⟩ := FO3.out.four AL.out (by omega)
                    have f0 := FE3.out.f 0 (by simp)
                    have y0 := FE3.out.c 0 _ rfl
                    have f2 := FE3.out.f 2 (by simp)
                    have y2 := FE3.out.c 2 _ rfl
                    have f3 := FE3.out.f 3 (by simp)
                    have y3 := FE3.out.c 3 _ rfl
                    have f4 := FE3.out.f 4 (by simp)
                    have y4 := FE3.out.c 4 _ rfl
                    have hgb : ¬ g2 = w.heap.size + 1 := by omega
                    have hgb2 : ¬ w.heap.size + 1 = g2 := by omega
                    have k0_ := (FO3.out.cell A0.out)
                    go_upto_region 27 with fail
                    have FE3 : Hid (Blk (w3.setCell ⟨w.heap.size + 1, 0, none⟩ (.int .i64 a0)) (w.heap.size + 1) [.int .i64 a0, .int .i64 5, .int .i64 0, .int .i64 0, .int .i64 0]) := FE3.out.set (k := 0) (.int .i64 a0) (by simp)
                    have FR3 : Hid (Blk (w3.setCell ⟨w.heap.size + 1, 0, none⟩ (.int .i64 a0)) w.heap.size [.int .i64 0, .int .i64 0, .int .i64 0, .int .i64 0, .int .i64 0]) := FR3.out.other (by simp)
                    have FO3 : Hid (OwI (w3.setCell ⟨w.heap.size + 1, 0, none⟩ (.int .i64 a0)) (w.heap.size + 2) (.slice (some ⟨g2, 0, none⟩) 4 c2) (acc ++ [0, 0])) := FO3.out.other (by simpa [Value.ownBlock] using hgb) _
                    have FB3 : Hid (Below w.heap.size w (w3.setCell ⟨w.heap.size + 1, 0, none⟩ (.int .i64 a0))) := FB3.out.setCell (p := ⟨w.heap.size + 1, 0, none⟩) (show w.heap.size ≤ w.heap.size + 1 by omega) _
                    obtain ⟨s0, hs0⟩ : ∃ s, w3.setCell ⟨w.heap.size + 1, 0, none⟩ (.int .i64 a0) = s := ⟨_, rfl⟩
                    rw [hs0] at FE3 FR3 FO3 FB3 ⊢
                    clear k0_ hs0 f0 f2 f3 f4 y0 y2 y3 y4
                    have f0 := FE3.out.f 0 (by simp)
                    have y0 := FE3.out.c 0 _ rfl
                    have f2 := FE3.out.f 2 (by simp)
                    have y2 := FE3.out.c 2 _ rfl
                    have f3 := FE3.out.f 3 (by simp)
                    have y3 := FE3.out.c 3 _ rfl
                    have f4 := FE3.out.f 4 (by simp)
                    have y4 := FE3.out.c 4 _ rfl
                    have k1_ := (FO3.out.cell A1.out)
                    go_upto_region 28 with fail
                    have FE3 : Hid (Blk (s0.setCell ⟨w.heap.size + 1, 2, none⟩ (.int .i64 a1)) (w.heap.size + 1) [.int .i64 a0, .int .i64 5, .int .i64 a1, .int .i64 0, .int .i64 0]) := FE3.out.set (k := 2) (.int .i64 a1) (by simp)
                    have FR3 : Hid (Blk (s0.setCell ⟨w.heap.size + 1, 2, none⟩ (.int .i64 a1)) w.heap.size [.int .i64 0, .int .i64 0, .int .i64 0, .int .i64 0, .int .i64 0]) := FR3.out.other (by simp)
                    have FO3 : Hid (OwI (s0.setCell ⟨w.heap.size + 1, 2, none⟩ (.int .i64 a1)) (w.heap.size + 2) (.slice (some ⟨g2, 0, none⟩) 4 c2) (acc ++ [0, 0])) := FO3.out.other (by simpa [Value.ownBlock] using hgb) _
                    have FB3 : Hid (Below w.heap.size w (s0.setCell ⟨w.heap.size + 1, 2, none⟩ (.int .i64 a1))) := FB3.out.setCell (p := ⟨w.heap.size + 1, 2, none⟩) (show w.heap.size ≤ w.heap.size + 1 by omega) _
                    obtain ⟨s1, hs1⟩ : ∃ s, s0.setCell ⟨w.heap.size + 1, 2, none⟩ (.int .i64 a1) = s := ⟨_, rfl⟩
                    rw [hs1] at FE3 FR3 FO3 FB3 ⊢
                    clear k1_ hs1 f0 f2 f3 f4 y0 y2 y3 y4
                    have f0 := FE3.out.f 0 (by simp)
                    have y0 := FE3.out.c 0 _ rfl
                    have f2 := FE3.out.f 2 (by simp)
                    have y2 := FE3.out.c 2 _ rfl
                    have f3 := FE3.out.f 3 (by simp)
                    have y3 := FE3.out.c 3 _ rfl
                    have f4 := FE3.out.f 4 (by simp)
                    have y4 := FE3.out.c 4 _ rfl
                    have k2_ := (FO3.out.cell A2.out)
                    go_upto_region 29 with fail
                    have FE3 : Hid (Blk (s1.setCell ⟨w.heap.size + 1, 3, none⟩ (.int .i64 a2)) (w.heap.size + 1) [.int .i64 a0, .int .i64 5, .int .i64 a1, .int .i64 a2, .int .i64 0]) := FE3.out.set (k := 3) (.int .i64 a2) (by simp)
                    have FR3 : Hid (Blk (s1.setCell ⟨w.heap.size + 1, 3, none⟩ (.int .i64 a2)) w.heap.size [.int .i64 0, .int .i64 0, .int .i64 0, .int .i64 0, .int .i64 0]) := FR3.out.other (by simp)
                    have FO3 : Hid (OwI (s1.setCell ⟨w.heap.size + 1, 3, none⟩ (.int .i64 a2)) (w.heap.size + 2) (.slice (some ⟨g2, 0, none⟩) 4 c2) (acc ++ [0, 0])) := FO3.out.other (by simpa [Value.ownBlock] using hgb) _
                    have FB3 : Hid (Below w.heap.size w (s1.setCell ⟨w.heap.size + 1, 3, none⟩ (.int .i64 a2))) := FB3.out.setCell (p := ⟨w.heap.size + 1, 3, none⟩) (show w.heap.size ≤ w.heap.size + 1 by omega) _
                    obtain ⟨s2, hs2⟩ : ∃ s, s1.setCell ⟨w.heap.size + 1, 3, none⟩ (.int .i64 a2) = s := ⟨_, rfl⟩
                    rw [hs2] at FE3 FR3 FO3 FB3 ⊢
                    clear k2_ hs2 f0 f2 f3 f4 y0 y2 y3 y4
                    have f0 := FE3.out.f 0 (by simp)
                    have y0 := FE3.out.c 0 _ rfl
                    have f2 := FE3.out.f 2 (by simp)
                    have y2 := FE3.out.c 2 _ rfl
                    have f3 := FE3.out.f 3 (by simp)
                    have y3 := FE3.out.c 3 _ rfl
                    have f4 := FE3.out.f 4 (by simp)
                    have y4 := FE3.out.c 4 _ rfl
                    have k3_ := (FO3.out.cell A3.out)
                    go_upto_region 30 with fail
                    have FE3 : Hid (Blk (s2.setCell ⟨w.heap.size + 1, 4, none⟩ (.int .i64 a3)) (w.heap.size + 1) [.int .i64 a0, .int .i64 5, .int .i64 a1, .int .i64 a2, .int .i64 a3]) := FE3.out.set (k := 4) (.int .i64 a3) (by simp)
                    have FR3 : Hid (Blk (s2.setCell ⟨w.heap.size + 1, 4, none⟩ (.int .i64 a3)) w.heap.size [.int .i64 0, .int .i64 0, .int .i64 0, .int .i64 0, .int .i64 0]) := FR3.out.other (by simp)
                    have FO3 : Hid (OwI (s2.setCell ⟨w.heap.size + 1, 4, none⟩ (.int .i64 a3)) (w.heap.size + 2) (.slice (some ⟨g2, 0, none⟩) 4 c2) (acc ++ [0, 0])) := FO3.out.other (by simpa [Value.ownBlock] using hgb) _
                    have FB3 : Hid (Below w.heap.size w (s2.setCell ⟨w.heap.size + 1, 4, none⟩ (.int .i64 a3))) := FB3.out.setCell (p := ⟨w.heap.size + 1, 4, none⟩) (show w.heap.size ≤ w.heap.size + 1 by omega) _
                    obtain ⟨s3, hs3⟩ : ∃ s, s2.setCell ⟨w.heap.size + 1, 4, none⟩ (.int .i64 a3) = s := ⟨_, rfl⟩
                    rw [hs3] at FE3 FR3 FO3 FB3 ⊢
                    clear k3_ hs3 f0 f2 f3 f4 y0 y2 y3 y4
                    have f0 := FE3.out.f 0 (by simp)
                    have y0 := FE3.out.c 0 _ rfl
                    have f2 := FE3.out.f 2 (by simp)
                    have y2 := FE3.out.c 2 _ rfl
                    have f3 := FE3.out.f 3 (by simp)
                    have y3 := FE3.out.c 3 _ rfl
                    have f4 := FE3.out.f 4 (by simp)
                    have y4 := FE3.out.c 4 _ rfl
                    go_wp2_with (first | (refine load_blk 37 _ Tryz.underlying37 (by kernel_rfl) FE3.out rfl rfl rfl ?_) | (refine store_blk [.int .i64 a0, .int .i64 5, .int .i64 a1, .int .i64 a2, .int .i64 a3] 37 _ _ (by kernel_rfl) (by kernel_rfl) (by kernel_rfl) FR3.out rfl rfl rfl rfl ?_))
                    rw [HR.out]
                    have G := FR3.out.row [.int .i64 a0, .int .i64 5, .int .i64 a1, .int .i64 a2, .int .i64 a3]
                    obtain ⟨Wf, hWf⟩ : ∃ Wf, s3.setRow w.heap.size [.int .i64 a0, .int .i64 5, .int .i64 a1, .int .i64 a2, .int .i64 a3].toArray = Wf := ⟨_, rfl⟩
                    have hB : Below w.heap.size w Wf := hWf ▸ below_row FB3.out (Nat.le_refl _) _
                    rw [hWf] at G ⊢
                    have g0_ := G.c 0 _ rfl
                    have g1_ := G.c 1 _ rfl
                    have g2_ := G.c 2 _ rfl
                    have g3_ := G.c 3 _ rfl
                    have g4_ := G.c 4 _ rfl
                    exact bodyPost_ret (v := .tuple #[.agg #[.int .i64 a0, .int .i64 5, .int .i64 a1, .int .i64 a2, .int .i64 a3], .bool true]) (by simp [results, Tryz.results12, go_sem, g0_, g1_, g2_, g3_, g4_]) rfl ⟨⟨⟨a0, 5, a1, a2, a3⟩, rfl, fun ev q => by cases q; rfl⟩, hB⟩
              · have hne : ((n : Int) == 3) = false := by simp; omega
                have HN : Hid (rdE ws = none) := rdE_ln hx (by rw [hkd]; simp [evN, *] <;> omega)
                go_wp2_with (first | (refine load_blk 37 _ Tryz.underlying37 (by kernel_rfl) FE.out rfl rfl rfl ?_) | (refine store_blk [.int .i64 0, .int .i64 5, .int .i64 0, .int .i64 0, .int .i64 0] 37 _ _ (by kernel_rfl) (by kernel_rfl) (by kernel_rfl) FR.out rfl rfl rfl rfl ?_))
                rw [HN.out]
                have G := FR.out.row [.int .i64 0, .int .i64 5, .int .i64 0, .int .i64 0, .int .i64 0]
                obtain ⟨Wf, hWf⟩ : ∃ Wf, wr.setRow w.heap.size [.int .i64 0, .int .i64 5, .int .i64 0, .int .i64 0, .int .i64 0].toArray = Wf := ⟨_, rfl⟩
                have hB : Below w.heap.size w Wf := hWf ▸ below_row FB.out (Nat.le_refl _) _
                rw [hWf] at G ⊢
                have g0_ := G.c 0 _ rfl
                have g1_ := G.c 1 _ rfl
                have g2_ := G.c 2 _ rfl
                have g3_ := G.c 3 _ rfl
                have g4_ := G.c 4 _ rfl
                exact bodyPost_ret (v := .tuple #[.agg #[.int .i64 0, .int .i64 5, .int .i64 0, .int .i64 0, .int .i64 0], .bool false]) (by simp [results, Tryz.results12, go_sem, g0_, g1_, g2_, g3_, g4_]) rfl ⟨⟨⟨0, 5, 0, 0, 0⟩, rfl, fun ev q => by cases q⟩, hB⟩
            · have b1 : (kd == 1) = false := by simpa using k1
              have b5 : (kd == 5) = false := by simpa using k5
              by_cases hn : n = 4
              · have hne : ((n : Int) == 4) = true := by simp; omega
                obtain ⟨i0, qI⟩ := info_parts info64
                have hI : Hid (Tryz.prog.info? 2 = some i0 ∧ i0.zero = some (.int .i64 0) ∧ i0.size = 1 ∧ i0.bytes = 8) := qI
                clear qI
                have hdl := dl_len ws (by omega)
                have D0 := dl_zero (l := ws) (by omega)
                have D1 := dl_succ (l := ws) (by omega)
                obtain ⟨D, hD⟩ : ∃ D, dl ws = D := ⟨_, rfl⟩
                have HS : Hid ((∀ (j : Nat) y, D[j]? = some y → ∃ u, numS y = some u) → rdE ws = some { tk := nv D 0, kd := kd, id := nv D 1, fl := nv D 2, tw := nv D 3 }) := by
                  intro q
                  have r := rdE_some hx (by omega) (by rw [hkd]; omega) (by rw [hkd]; simp [evN, *] <;> omega) (by rw [hD]; exact q)
                  rw [hkd, hD] at r
                  exact r
                have HNN : Hid (∀ (j : Nat) y, D[j]? = some y → numS y = none → rdE ws = none) := fun j y a b => rdE_num (j := j) (by rw [hD]; exact a) b
                rw [hD] at hdl D0 D1
                have HDL : Hid (D.length = 3) := by show _ = _; omega
                have HD0 : Hid (D[0]? = ws[0]?) := D0
                have HD1 : Hid (∀ j, D[j + 1]? = ws[j + 2]?) := D1
                have HN5 : Hid (n = 4) := hn
                clear hD D0 D1 hkd hx hdl
                go_wp2_with fail
                clear hn
                go_loopw [7, 8] (fun vv ii wr2 => ∃ (i : Nat) (v : Value), vv = v ∧ ii = .int .i64 (i : Int) ∧ i ≤ 4 ∧ OwI wr2 (w.heap.size + 2) v (nvL D (cntI i)) ∧ (∀ (j : Nat) y, j < cntI i → D[j]? = some y → ∃ u, numS y = some u) ∧ Blk wr2 w.heap.size [.int .i64 0, .int .i64 0, .int .i64 0, .int .i64 0, .int .i64 0] ∧ Blk wr2 (w.heap.size + 1) [.int .i64 0, .int .i64 kd, .int .i64 0, .int .i64 0, .int .i64 0] ∧ Below w.heap.size w wr2) (fun _ ii _ => 4 - (intOf ii).toNat)
                case atStart => exact ⟨0, _, rfl, rfl, by omega, World.ownsRow_lit (base := w.heap.size + 2) (e := 2) (size := 1) wr #[] 0 FE.out.lt (by unfold maxLen; omega) rfl, fun j y hj => by simp [cntI] at hj, FR.out.alloc _, FE.out.alloc _, FB.out.alloc FB.out.size _⟩
                case round =>
                  obtain ⟨i, v, hvv, rfl, hi, ho, hall, hr, he, hb⟩ := hrel
                  have hvv' := hvv.symm
                  subst hvv'
                  clear FR FE FB y1
                  have FO : Hid (OwI wr (w.heap.size + 2) v (nvL D (cntI i))) := ho
                  have FR : Hid (Blk wr w.heap.size [.int .i64 0, .int .i64 0, .int .i64 0, .int .i64 0, .int .i64 0]) := hr
                  have FE : Hid (Blk wr (w.heap.size + 1) [.int .i64 0, .int .i64 kd, .int .i64 0, .int .i64 0, .int .i64 0]) := he
                  have FB : Hid (Below w.heap.size w wr) := hb
                  have HA : Hid (∀ (j : Nat) y, j < cntI i → D[j]? = some y → ∃ u, numS y = some u) := hall
                  have lz : w.heap.size + 2 ≤ wr.heap.size := FE.out.lt
                  clear ho hr he hb hall
                  by_cases hlt : i < 4
                  · have hli : (i : Int) < n := by have := HN5.out; omega
                    by_cases h1 : i = 1
                    · subst h1
                      go_wp2_with fail
                      go_roundw
                      case rel => exact ⟨2, v, rfl, by simp, by omega, FO.out, HA.out, FR.out, FE.out, FB.out⟩
                      case measure => simp [intOf]
                    · have h1b : ((i : Int) == 1) = false := by simp; omega
                      obtain ⟨y, hy⟩ : ∃ y, ws[i]? = some y := ⟨_, List.getElem?_eq_getElem (by have := HNL.out; have := HN5.out; omega)⟩
                      have c0 := (FB.out.cell (p := ⟨g, i, none⟩) hg).trans (HC.out i y hy)
                      have CN := l9Number_any y (hsz y (List.mem_of_getElem? hy))
                      have DI : D[cntI i]? = some y := by
                        unfold cntI
                        by_cases q : i = 0
                        · subst q; exact HD0.out.trans hy
                        · rw [if_neg (by omega)]
                          have q2 := HD1.out (i - 2)
                          rw [show i - 2 + 1 = i - 1 by omega, show i - 2 + 2 = i by omega] at q2
                          exact q2.trans hy
                      have ec : cntI (i + 1) = cntI i + 1 := by unfold cntI; split <;> split <;> omega
                      cases hu : numS y with
                      | none =>
                        rw [hu] at CN
                        have HN : Hid (rdE ws = none) := HNN.out _ y DI hu
                        have CN2 : ∀ W, Calls Tryz.prog 26 #[.string y] W fun e w' => e = .returned (.tuple #[.int .i64 0, .bool false]) ∧ w' = W := CN
                        clear CN DI hy hu ec
                        go_wp2_with (first | (go_at_call 26; refine (CN2 _).mono ?_; rintro e w3 ⟨rfl, hw⟩; rw [hw]; clear hw) | (refine load_blk 37 _ Tryz.underlying37 (by kernel_rfl) FE.out rfl rfl rfl ?_) | (refine store_blk [.int .i64 0, .int .i64 kd, .int .i64 0, .int .i64 0, .int .i64 0] 37 _ _ (by kernel_rfl) (by kernel_rfl) (by kernel_rfl) FR.out rfl rfl rfl rfl ?_))
                        rw [HN.out]
                        have G := FR.out.row [.int .i64 0, .int .i64 kd, .int .i64 0, .int .i64 0, .int .i64 0]
                        obtain ⟨Wf, hWf⟩ : ∃ Wf, wr.setRow w.heap.size [.int .i64 0, .int .i64 kd, .int .i64 0, .int .i64 0, .int .i64 0].toArray = Wf := ⟨_, rfl⟩
                        have hB : Below w.heap.size w Wf := hWf ▸ below_row FB.out (Nat.le_refl _) _
                        rw [hWf] at G ⊢
                        have g0_ := G.c 0 _ rfl
                        have g1_ := G.c 1 _ rfl
                        have g2_ := G.c 2 _ rfl
                        have g3_ := G.c 3 _ rfl
                        have g4_ := G.c 4 _ rfl
                        exact bodyPost_ret (v := .tuple #[.agg #[.int .i64 0, .int .i64 kd, .int .i64 0, .int .i64 0, .int .i64 0], .bool false]) (by simp [results, Tryz.results12, go_sem, g0_, g1_, g2_, g3_, g4_]) rfl ⟨⟨⟨0, kd, 0, 0, 0⟩, rfl, fun ev q => by cases q⟩, hB⟩
                      | some u =>
                        rw [hu] at CN
                        have CN2 : ∀ W, Calls Tryz.prog 26 #[.string y] W fun e w' => e = .returned (.tuple #[.int .i64 (u : Int), .bool true]) ∧ w' = W := CN
                        have HU : Hid (nvL D (cntI (i + 1)) = nvL D (cntI i) ++ [(u : Int)]) := by rw [ec, nvL_snoc, nv_at DI hu]; exact rfl
                        have HA2 : Hid (∀ (j : Nat) y, j < cntI (i + 1) → D[j]? = some y → ∃ u, numS y = some u) := fun j y' hj hy' => by
                          rw [ec] at hj
                          rcases Nat.lt_or_ge j (cntI i) with c | c
                          · exact HA.out j y' c hy'
                          · obtain rfl : j = cntI i := by omega
                            rw [DI] at hy'; cases hy'; exact ⟨u, hu⟩
                        have hcl := nvL_len D (cntI i)
                        have hc5 : cntI i ≤ 5 := by unfold cntI; split <;> omega
                        obtain ⟨acc, hacc⟩ : ∃ acc, nvL D (cntI i) = acc := ⟨_, rfl⟩
                        rw [hacc] at HU FO hcl
                        have hal : acc.length ≤ 5 := by omega
                        clear CN DI hy hu ec hacc HA hcl hc5
                        go_wp2_with (first | (go_at_call 26; refine (CN2 _).mono ?_; rintro e w3 ⟨rfl, hw⟩; rw [hw]; clear hw) | (at_builtin; go_loud (refine wpList_append_own _ rfl _ _ 54 rfl (w.heap.size + 2) 2 i0 (.int .i64 0) 1 8 undI64S hI.out.1 hI.out.2.1 hI.out.2.2.1 hI.out.2.2.2 rfl (by omega) _ acc.length _ rfl (FO.out.alloc _) ⟨wr.heap.size, 0, none⟩ 1 1 [.int .i64 (u : Int)] rfl rfl (one_new wr (u : Int) _) (one_cell (u : Int)) (by unfold maxLen; omega) (by omega) (by simp; omega) ?_); intro v1 w3 ho hgr hnn; have FO3 : Hid (OwI w3 (w.heap.size + 2) v1 (acc ++ [(u : Int)])) := intsV_app ho; have nb : ∀ k, k < w.heap.size + 2 → some k ≠ v.ownBlock := fun k hk e => absurd (FO.out.lt k e.symm).1 (by omega); have FR3 : Hid (Blk w3 w.heap.size [.int .i64 0, .int .i64 0, .int .i64 0, .int .i64 0, .int .i64 0]) := (FR.out.alloc _).grown hgr (nb _ (by omega)); have FE3 : Hid (Blk w3 (w.heap.size + 1) [.int .i64 0, .int .i64 kd, .int .i64 0, .int .i64 0, .int .i64 0]) := (FE.out.alloc _).grown hgr (nb _ (by omega)); have FB3 : Hid (Below w.heap.size w w3) := (FB.out.alloc FB.out.size _).grown hgr (by simp; omega) (fun k hk => Nat.le_trans (by omega) (FO.out.lt k hk).1); clear ho hgr hnn nb))
                        go_roundw
                        case rel =>
                          (repeat apply Exists.intro)
                          refine ⟨⟨i + 1, v1, rfl, (by simp : Value.int .i64 ((i : Int) + 1) = .int .i64 ((i + 1 : Nat) : Int)), by omega, by rw [HU.out]; exact FO3.out, HA2.out, FR3.out, FE3.out, FB3.out⟩, ?_⟩
                          rfl
                        case measure => simp [intOf]; omega
                  · have hge : ¬ ((i : Int) < n) := by have := HN5.out; omega
                    obtain rfl : i = 4 := by omega
                    have ec : cntI 4 = 3 := rfl
                    rw [ec] at FO HA
                    have HR : Hid (rdE ws = some { tk := nv D 0, kd := kd, id := nv D 1, fl := nv D 2, tw := nv D 3 }) := HS.out fun j y hy => HA.out j y (by have := HDL.out; have := (List.getElem?_eq_some_iff.1 hy).1; omega) hy
                    have A0 : Hid ((nvL D 3 ++ [0, 0])[0]? = some (nv D 0)) := nvL_at (Nat.le_of_eq HDL.out) (by omega)
                    have A1 : Hid ((nvL D 3 ++ [0, 0])[1]? = some (nv D 1)) := nvL_at (Nat.le_of_eq HDL.out) (by omega)
                    have A2 : Hid ((nvL D 3 ++ [0, 0])[2]? = some (nv D 2)) := nvL_at (Nat.le_of_eq HDL.out) (by omega)
                    have A3 : Hid ((nvL D 3 ++ [0, 0])[3]? = some (nv D 3)) := nvL_at (Nat.le_of_eq HDL.out) (by omega)
                    have AL : Hid ((nvL D 3 ++ [0, 0]).length = 5) := by show _ = _; rw [List.length_append, nvL_len]; rfl
                    have hal : (nvL D 3).length ≤ 5 := by rw [nvL_len]; omega
                    obtain ⟨acc, hacc⟩ : ∃ acc, nvL D 3 = acc := ⟨_, rfl⟩
                    rw [hacc] at FO A0 A1 A2 A3 AL hal
                    obtain ⟨a0, e0⟩ : ∃ a, nv D 0 = a := ⟨_, rfl⟩
                    obtain ⟨a1, e1⟩ : ∃ a, nv D 1 = a := ⟨_, rfl⟩
                    obtain ⟨a2, e2⟩ : ∃ a, nv D 2 = a := ⟨_, rfl⟩
                    obtain ⟨a3, e3⟩ : ∃ a, nv D 3 = a := ⟨_, rfl⟩
                    rw [e0] at A0 HR
                    rw [e1] at A1 HR
                    rw [e2] at A2 HR
                    rw [e3] at A3 HR
                    clear HA HS HNN e0 e1 e2 e3 hacc ec
                    go_upto_region 26 with (at_builtin; go_loud (refine wpList_append_own _ rfl _ _ 54 rfl (w.heap.size + 2) 2 i0 (.int .i64 0) 1 8 undI64S hI.out.1 hI.out.2.1 hI.out.2.2.1 hI.out.2.2.2 rfl (by omega) _ acc.length _ rfl (FO.out.alloc _) ⟨wr.heap.size, 0, none⟩ 2 2 [.int .i64 0, .int .i64 0] rfl rfl (two_new wr 0 0 _) (two_cell 0 0) (by unfold maxLen; omega) (by omega) (by simp; omega) ?_); intro v1 w3 ho hgr hnn; have FO3 : Hid (OwI w3 (w.heap.size + 2) v1 (acc ++ [0, 0])) := intsV_app2 ho; have nb : ∀ k, k < w.heap.size + 2 → some k ≠ v.ownBlock := fun k hk e => absurd (FO.out.lt k e.symm).1 (by omega); have FR3 : Hid (Blk w3 w.heap.size [.int .i64 0, .int .i64 0, .int .i64 0, .int .i64 0, .int .i64 0]) := (FR.out.alloc _).grown hgr (nb _ (by omega)); have FE3 : Hid (Blk w3 (w.heap.size + 1) [.int .i64 0, .int .i64 kd, .int .i64 0, .int .i64 0, .int .i64 0]) := (FE.out.alloc _).grown hgr (nb _ (by omega)); have FB3 : Hid (Below w.heap.size w w3) := (FB.out.alloc FB.out.size _).grown hgr (by simp; omega) (fun k hk => Nat.le_trans (by omega) (FO.out.lt k hk).1); clear ho hgr hnn nb)
                    clear FR FE FB FO
                    obtain ⟨g2, c2, rfl, hg2, hg2l⟩ := FO3.out.four AL.out (by omega)
                    have f0 := FE3.out.f 0 (by simp)
                    have y0 := FE3.out.c 0 _ rfl
                    have f2 := FE3.out.f 2 (by simp)
                    have y2 := FE3.out.c 2 _ rfl
                    have f3 := FE3.out.f 3 (by simp)
                    have y3 := FE3.out.c 3 _ rfl
                    have f4 := FE3.out.f 4 (by simp)
                    have y4 := FE3.out.c 4 _ rfl
                    have hgb : ¬ g2 = w.heap.size + 1 := by omega
                    have hgb2 : ¬ w.heap.size + 1 = g2 := by omega
                    have k0_ := (FO3.out.cell A0.out)
                    go_upto_region 27 with fail
                    have FE3 : Hid (Blk (w3.setCell ⟨w.heap.size + 1, 0, none⟩ (.int .i64 a0)) (w.heap.size + 1) [.int .i64 a0, .int .i64 kd, .int .i64 0, .int .i64 0, .int .i64 0]) := FE3.out.set (k := 0) (.int .i64 a0) (by simp)
                    have FR3 : Hid (Blk (w3.setCell ⟨w.heap.size + 1, 0, none⟩ (.int .i64 a0)) w.heap.size [.int .i64 0, .int .i64 0, .int .i64 0, .int .i64 0, .int .i64 0]) := FR3.out.other (by simp)
                    have FO3 : Hid (OwI (w3.setCell ⟨w.heap.size + 1, 0, none⟩ (.int .i64 a0)) (w.heap.size + 2) (.slice (some ⟨g2, 0, none⟩) 5 c2) (acc ++ [0, 0])) := FO3.out.other (by simpa [Value.ownBlock] using hgb) _
                    have FB3 : Hid (Below w.heap.size w (w3.setCell ⟨w.heap.size + 1, 0, none⟩ (.int .i64 a0))) := FB3.out.setCell (p := ⟨w.heap.size + 1, 0, none⟩) (show w.heap.size ≤ w.heap.size + 1 by omega) _
                    obtain ⟨s0, hs0⟩ : ∃ s, w3.setCell ⟨w.heap.size + 1, 0, none⟩ (.int .i64 a0) = s := ⟨_, rfl⟩
                    rw [hs0] at FE3 FR3 FO3 FB3 ⊢
                    clear k0_ hs0 f0 f2 f3 f4 y0 y2 y3 y4
                    have f0 := FE3.out.f 0 (by simp)
                    have y0 := FE3.out.c 0 _ rfl
                    have f2 := FE3.out.f 2 (by simp)
                    have y2 := FE3.out.c 2 _ rfl
                    have f3 := FE3.out.f 3 (by simp)
                    have y3 := FE3.out.c 3 _ rfl
                    have f4 := FE3.out.f 4 (by simp)
                    have y4 := FE3.out.c 4 _ rfl
                    have k1_ := (FO3.out.cell A1.out)
                    go_upto_region 28 with fail
                    have FE3 : Hid (Blk (s0.setCell ⟨w.heap.size + 1, 2, none⟩ (.int .i64 a1)) (w.heap.size + 1) [.int .i64 a0, .int .i64 kd, .int .i64 a1, .int .i64 0, .int .i64 0]) := FE3.out.set (k := 2) (.int .i64 a1) (by simp)
                    have FR3 : Hid (Blk (s0.setCell ⟨w.heap.size + 1, 2, none⟩ (.int .i64 a1)) w.heap.size [.int .i64 0, .int .i64 0, .int .i64 0, .int .i64 0, .int .i64 0]) := FR3.out.other (by simp)
                    have FO3 : Hid (OwI (s0.setCell ⟨w.heap.size + 1, 2, none⟩ (.int .i64 a1)) (w.heap.size + 2) (.slice (some ⟨g2, 0, none⟩) 5 c2) (acc ++ [0, 0])) := FO3.out.other (by simpa [Value.ownBlock] using hgb) _
                    have FB3 : Hid (Below w.heap.size w (s0.setCell ⟨w.heap.size + 1, 2, none⟩ (.int .i64 a1))) := FB3.out.setCell (p := ⟨w.heap.size + 1, 2, none⟩) (show w.heap.size ≤ w.heap.size + 1 by omega) _
                    obtain ⟨s1, hs1⟩ : ∃ s, s0.setCell ⟨w.heap.size + 1, 2, none⟩ (.int .i64 a1) = s := ⟨_, rfl⟩
                    rw [hs1] at FE3 FR3 FO3 FB3 ⊢
                    clear k1_ hs1 f0 f2 f3 f4 y0 y2 y3 y4
                    have f0 := FE3.out.f 0 (by simp)
                    have y0 := FE3.out.c 0 _ rfl
                    have f2 := FE3.out.f 2 (by simp)
                    have y2 := FE3.out.c 2 _ rfl
                    have f3 := FE3.out.f 3 (by simp)
                    have y3 := FE3.out.c 3 _ rfl
                    have f4 := FE3.out.f 4 (by simp)
                    have y4 := FE3.out.c 4 _ rfl
                    have k2_ := (FO3.out.cell A2.out)
                    go_upto_region 29 with fail
                    have FE3 : Hid (Blk (s1.setCell ⟨w.heap.size + 1, 3, none⟩ (.int .i64 a2)) (w.heap.size + 1) [.int .i64 a0, .int .i64 kd, .int .i64 a1, .int .i64 a2, .int .i64 0]) := FE3.out.set (k := 3) (.int .i64 a2) (by simp)
                    have FR3 : Hid (Blk (s1.setCell ⟨w.heap.size + 1, 3, none⟩ (.int .i64 a2)) w.heap.size [.int .i64 0, .int .i64 0, .int .i64 0, .int .i64 0, .int .i64 0]) := FR3.out.other (by simp)
                    have FO3 : Hid (OwI (s1.setCell ⟨w.heap.size + 1, 3, none⟩ (.int .i64 a2)) (w.heap.size + 2) (.slice (some ⟨g2, 0, none⟩) 5 c2) (acc ++ [0, 0])) := FO3.out.other (by simpa [Value.ownBlock] using hgb) _
                    have FB3 : Hid (Below w.heap.size w (s1.setCell ⟨w.heap.size + 1, 3, none⟩ (.int .i64 a2))) := FB3.out.setCell (p := ⟨w.heap.size + 1, 3, none⟩) (show w.heap.size ≤ w.heap.size + 1 by omega) _
                    obtain ⟨s2, hs2⟩ : ∃ s, s1.setCell ⟨w.heap.size + 1, 3, none⟩ (.int .i64 a2) = s := ⟨_, rfl⟩
                    rw [hs2] at FE3 FR3 FO3 FB3 ⊢
                    clear k2_ hs2 f0 f2 f3 f4 y0 y2 y3 y4
                    have f0 := FE3.out.f 0 (by simp)
                    have y0 := FE3.out.c 0 _ rfl
                    have f2 := FE3.out.f 2 (by simp)
                    have y2 := FE3.out.c 2 _ rfl
                    have f3 := FE3.out.f 3 (by simp)
                    have y3 := FE3.out.c 3 _ rfl
                    have f4 := FE3.out.f 4 (by simp)
                    have y4 := FE3.out.c 4 _ rfl
                    have k3_ := (FO3.out.cell A3.out)
                    go_upto_region 30 with fail
                    have FE3 : Hid (Blk (s2.setCell ⟨w.heap.size + 1, 4, none⟩ (.int .i64 a3)) (w.heap.size + 1) [.int .i64 a0, .int .i64 kd, .int .i64 a1, .int .i64 a2, .int .i64 a3]) := FE3.out.set (k := 4) (.int .i64 a3) (by simp)
                    have FR3 : Hid (Blk (s2.setCell ⟨w.heap.size + 1, 4, none⟩ (.int .i64 a3)) w.heap.size [.int .i64 0, .int .i64 0, .int .i64 0, .int .i64 0, .int .i64 0]) := FR3.out.other (by simp)
                    have FO3 : Hid (OwI (s2.setCell ⟨w.heap.size + 1, 4, none⟩ (.int .i64 a3)) (w.heap.size + 2) (.slice (some ⟨g2, 0, none⟩) 5 c2) (acc ++ [0, 0])) := FO3.out.other (by simpa [Value.ownBlock] using hgb) _
                    have FB3 : Hid (Below w.heap.size w (s2.setCell ⟨w.heap.size + 1, 4, none⟩ (.int .i64 a3))) := FB3.out.setCell (p := ⟨w.heap.size + 1, 4, none⟩) (show w.heap.size ≤ w.heap.size + 1 by omega) _
                    obtain ⟨s3, hs3⟩ : ∃ s, s2.setCell ⟨w.heap.size + 1, 4, none⟩ (.int .i64 a3) = s := ⟨_, rfl⟩
                    rw [hs3] at FE3 FR3 FO3 FB3 ⊢
                    clear k3_ hs3 f0 f2 f3 f4 y0 y2 y3 y4
                    have f0 := FE3.out.f 0 (by simp)
                    have y0 := FE3.out.c 0 _ rfl
                    have f2 := FE3.out.f 2 (by simp)
                    have y2 := FE3.out.c 2 _ rfl
                    have f3 := FE3.out.f 3 (by simp)
                    have y3 := FE3.out.c 3 _ rfl
                    have f4 := FE3.out.f 4 (by simp)
                    have y4 := FE3.out.c 4 _ rfl
                    go_wp2_with (first | (refine load_blk 37 _ Tryz.underlying37 (by kernel_rfl) FE3.out rfl rfl rfl ?_) | (refine store_blk [.int .i64 a0, .int .i64 kd, .int .i64 a1, .int .i64 a2, .int .i64 a3] 37 _ _ (by kernel_rfl) (by kernel_rfl) (by kernel_rfl) FR3.out rfl rfl rfl rfl ?_))
                    rw [HR.out]
                    have G := FR3.out.row [.int .i64 a0, .int .i64 kd, .int .i64 a1, .int .i64 a2, .int .i64 a3]
                    obtain ⟨Wf, hWf⟩ : ∃ Wf, s3.setRow w.heap.size [.int .i64 a0, .int .i64 kd, .int .i64 a1, .int .i64 a2, .int .i64 a3].toArray = Wf := ⟨_, rfl⟩
                    have hB : Below w.heap.size w Wf := hWf ▸ below_row FB3.out (Nat.le_refl _) _
                    rw [hWf] at G ⊢
                    have g0_ := G.c 0 _ rfl
                    have g1_ := G.c 1 _ rfl
                    have g2_ := G.c 2 _ rfl
                    have g3_ := G.c 3 _ rfl
                    have g4_ := G.c 4 _ rfl
                    exact bodyPost_ret (v := .tuple #[.agg #[.int .i64 a0, .int .i64 kd, .int .i64 a1, .int .i64 a2, .int .i64 a3], .bool true]) (by simp [results, Tryz.results12, go_sem, g0_, g1_, g2_, g3_, g4_]) rfl ⟨⟨⟨a0, kd, a1, a2, a3⟩, rfl, fun ev q => by cases q; rfl⟩, hB⟩
              · have hne : ((n : Int) == 4) = false := by simp; omega
                have HN : Hid (rdE ws = none) := rdE_ln hx (by rw [hkd]; simp [evN, *] <;> omega)
                go_wp2_with (first | (refine load_blk 37 _ Tryz.underlying37 (by kernel_rfl) FE.out rfl rfl rfl ?_) | (refine store_blk [.int .i64 0, .int .i64 kd, .int .i64 0, .int .i64 0, .int .i64 0] 37 _ _ (by kernel_rfl) (by kernel_rfl) (by kernel_rfl) FR.out rfl rfl rfl rfl ?_))
                rw [HN.out]
                have G := FR.out.row [.int .i64 0, .int .i64 kd, .int .i64 0, .int .i64 0, .int .i64 0]
                obtain ⟨Wf, hWf⟩ : ∃ Wf, wr.setRow w.heap.size [.int .i64 0, .int .i64 kd, .int .i64 0, .int .i64 0, .int .i64 0].toArray = Wf := ⟨_, rfl⟩
                have hB : Below w.heap.size w Wf := hWf ▸ below_row FB.out (Nat.le_refl _) _
                rw [hWf] at G ⊢
                have g0_ := G.c 0 _ rfl
                have g1_ := G.c 1 _ rfl
                have g2_ := G.c 2 _ rfl
                have g3_ := G.c 3 _ rfl
                have g4_ := G.c 4 _ rfl
                exact bodyPost_ret (v := .tuple #[.agg #[.int .i64 0, .int .i64 kd, .int .i64 0, .int .i64 0, .int .i64 0], .bool false]) (by simp [results, Tryz.results12, go_sem, g0_, g1_, g2_, g3_, g4_]) rfl ⟨⟨⟨0, kd, 0, 0, 0⟩, rfl, fun ev q => by cases q⟩, hB⟩
end Go.Proofs.YtonmocgoelkofaaGreatDoor
