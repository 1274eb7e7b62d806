/-
  The model: what happened between two ledgers.
-/
import Derived.Test.YtiejogkhobiddaaEvP
import Derived.Test.YtiejogkhobiddaaPersF
import Derived.Test.YtiejogkhobiddaaFnd
namespace Go.Proofs.Ytiejogkhobiddaa
open Go.RowKit Pl
set_option linter.unusedSimpArgs false
set_option linter.unusedVariables false

set_option maxRecDepth 20000 in
set_option maxHeartbeats 16000000 in
theorem l10Find_any (lb : Nat) (nx : Int) (a : Option Addr) (cap : Nat) (l : List Pe) (id : Int) (hl : l.length ≤ 1048576) (w : World) (hA : LAt w lb nx a l.length cap) (hP : PIn w w.heap.size a l) :
    Calls Try.prog 31 #[.pointer (some ⟨lb, 0, none⟩), .int .i64 id] w fun e w' => (∃ k : Int, e = .returned (.int .i64 k) ∧ ((k = -1 ∧ fnd id l = none) ∨ ∃ (i : Nat) (q : Pe), k = (i : Int) ∧ l[i]? = some q ∧ fnd id l = some q)) ∧ w' = w := by
  have HP : Hid (PIn w w.heap.size a l) := hP
  have c1 := hA.c1
  clear hP hA
  go_enter Try.func31, Try.ntmps31
  go_wp2_with fail
  go_loopw [5] (fun ii wr => ∃ i : Nat, ii = .int .i64 i ∧ i ≤ l.length ∧ (∀ j r, j < i → l[j]? = some r → ¬ r.id = id) ∧ wr = w) (fun ii _ => l.length - (intOf ii).toNat)
  case atStart => exact ⟨0, rfl, by omega, fun j r hj => by omega, rfl⟩
  case round =>
    obtain ⟨i, rfl, hi, hno, hw⟩ := hrel
    obtain rfl := hw.symm
    clear hw
    have HN : Hid (∀ j r, j < i → l[j]? = some r → ¬ r.id = id) := hno
    clear hno
    by_cases hlt : i < l.length
    · obtain ⟨p, hp⟩ : ∃ p, l[i]? = some p := ⟨_, List.getElem?_eq_getElem hlt⟩
      have HG : Hid (l[i]? = some p) := hp
      rcases HP.out with h0 | ⟨b, o, rfl, hbl, h7⟩
      · rw [h0] at hlt; simp at hlt
      have z0 := (h7 i p hp).c0
      clear hp h7
      by_cases e : p.id = id
      · have e1 : (p.id == id) = true := by simpa using e
        have HF : Hid (fnd id l = some p) := fnd_at HG.out e HN.out
        clear e
        go_wp2_with fail
        go_ret
        exact ⟨⟨_, rfl, Or.inr ⟨i, p, rfl, HG.out, HF.out⟩⟩, rfl⟩
      · have e1 : (p.id == id) = false := by simpa using e
        have HN : Hid (∀ j r, j < i + 1 → l[j]? = some r → ¬ r.id = id) := fun j r hj hr => by
          rcases Nat.lt_succ_iff_lt_or_eq.1 hj with z | z
          · exact HN.out j r z hr
          · subst z; rw [HG.out] at hr; cases hr; exact e
        clear e
        go_wp2_with fail
        go_roundw
        case rel => exact ⟨i + 1, by simp, by omega, HN.out, by first | rfl | trivial⟩
        case measure => simp [intOf]; omega
    · have ei : i = l.length := by omega
      subst ei
      have HF : Hid (fnd id l = none) := fnd_no HN.out
      clear HN
      go_wp2_with fail
      go_ret
      exact ⟨⟨_, rfl, Or.inl ⟨rfl, HF.out⟩⟩, rfl⟩
theorem ownE_empty (w : World) (B : Nat) (hB : B ≤ w.heap.size) : OwnE (w.alloc (.cells #[] 63)) B (.slice (some ⟨w.heap.size, 0, none⟩) 0 0) [] := World.ownsRow_lit (base := B) (e := 63) (size := 5) w #[] 0 hB (by unfold maxLen; omega) rfl
theorem led_st {h : Hs} {x : Lg} (k : Hs.led h x = 0) : ∀ q ∈ x.ps, 0 ≤ q.st := by
  have key : ∀ (l : List Pe) (nx last : Int), Hs.first h nx last l = 0 → ∀ q ∈ l, 0 ≤ q.st := by
    intro l
    induction l with
    | nil => intro nx last _ q hq; simp at hq
    | cons p l ih =>
      intro nx last e q hq
      have e2 : (if Hs.pers h nx last p = 0 then Hs.first h nx p.id l else Hs.pers h nx last p) = 0 := e
      by_cases z : Hs.pers h nx last p = 0
      · rw [if_pos z] at e2
        rcases List.mem_cons.1 hq with rfl | hq
        · unfold Hs.pers at z
          split at z
          · split at z
            · omega
            · unfold Hs.persC at z
              split at z
              · split at z
                · rename_i hi
                  unfold inP at hi
                  simp only [Bool.and_eq_true] at hi
                  exact (inB_iff.1 hi.2.2.1).1
                · omega
              · omega
          · omega
        · exact ih nx p.id e2 q hq
      · rw [if_neg z] at e2; exact absurd e2 z
  unfold Hs.led at k
  by_cases hf : h.fault = 0
  · rw [if_pos hf] at k
    unfold Hs.ledC at k
    split at k
    · split at k
      · omega
      · split at k
        · rename_i hz; exact key _ _ _ hz
        · omega
    · omega
  · rw [if_neg hf] at k; exact absurd k hf
set_option maxRecDepth 20000 in
set_option maxHeartbeats 32000000 in
theorem l10One_any (tk was : Int) (p : Pe) (h0 : 0 ≤ was) (w : World) :
    Calls Try.prog 32 #[.int .i64 tk, .int .i64 was, .agg #[.int .i64 p.id, .int .i64 p.fr, .int .i64 p.tw, .int .i64 p.sh, .int .i64 p.ca, .int .i64 p.st, .int .i64 p.pl]] w (isOp w (stepsP tk was p)) := by
  obtain ⟨W0, hW0⟩ : ∃ W0, W0 = ((w.alloc (.cells #[.int .i64 p.id, .int .i64 p.fr, .int .i64 p.tw, .int .i64 p.sh, .int .i64 p.ca, .int .i64 p.st, .int .i64 p.pl] 60)).alloc (.cells #[] 63)) := ⟨_, rfl⟩
  obtain ⟨v0, hv0⟩ : ∃ v0, v0 = Value.slice (some ⟨w.heap.size + 1, 0, none⟩) 0 0 := ⟨_, rfl⟩
  have F0 : Hid (Blk W0 w.heap.size [.int .i64 p.id, .int .i64 p.fr, .int .i64 p.tw, .int .i64 p.sh, .int .i64 p.ca, .int .i64 p.st, .int .i64 p.pl]) := by rw [hW0]; exact (Blk.at_ w _ _ _ rfl).alloc _
  have FO : Hid (OwnE W0 (w.heap.size + 1) v0 ([] : List Ev)) := by rw [hW0, hv0]; exact (by have q := ownE_empty (w.alloc (.cells #[.int .i64 p.id, .int .i64 p.fr, .int .i64 p.tw, .int .i64 p.sh, .int .i64 p.ca, .int .i64 p.st, .int .i64 p.pl] 60)) (w.heap.size + 1) (by simp); simp at q; exact q)
  have FB : Hid (Below w.heap.size w W0) := by rw [hW0]; exact ((Below.refl _ _).alloc (Nat.le_refl _) _).alloc (by simp) _
  have FO0 : Hid (w.heap.size + 1 ≤ W0.heap.size) := by rw [hW0]; show _ ≤ _; simp
  have HW0 : Hid (W0 = ((w.alloc (.cells #[.int .i64 p.id, .int .i64 p.fr, .int .i64 p.tw, .int .i64 p.sh, .int .i64 p.ca, .int .i64 p.st, .int .i64 p.pl] 60)).alloc (.cells #[] 63))) := hW0
  have HV0 : Hid (v0 = Value.slice (some ⟨w.heap.size + 1, 0, none⟩) 0 0) := hv0
  clear hW0 hv0
  unfold isOp
  obtain ⟨oo, hoo⟩ : ∃ oo, stepsP tk was p = oo := ⟨_, rfl⟩
  rw [hoo]
  have HOO : Hid (stepsP tk was p = oo) := hoo
  clear hoo
  go_enter Try.func32, Try.ntmps32
  go_upto_region 2 with fail
  rw [← HW0.out, ← HV0.out]
  clear HW0 HV0
  have x0 := F0.out.c 0 _ rfl; have x1 := F0.out.c 1 _ rfl; have x5 := F0.out.c 5 _ rfl; have x6 := F0.out.c 6 _ rfl
  by_cases e0 : p.st = was
  · have b0 : (p.st == was) = true := by simpa using e0
    have HV : Hid (oo = some []) := by show oo = _; rw [← HOO.out]; unfold stepsP; rw [if_pos e0.symm]
    clear HOO e0
    go_wp2_with fail
    go_ret2
    exact ⟨⟨_, by rw [HV.out]; rfl, fun m hm => by rw [HV.out] at hm; cases hm; exact FO.out.base (by omega)⟩, FB.out⟩
  have b0 : (p.st == was) = false := by simpa using e0
  have e1 : ¬ was = p.st := fun z => e0 z.symm
  by_cases ew : was = 0
  · subst ew
    by_cases s4 : p.st = 4
    · have b4 : (p.st == 4) = true := by simpa using s4
      have HV : Hid (oo = some [(⟨tk, 5, p.id, 0, 0⟩ : Ev)]) := by show oo = _; rw [← HOO.out]; simp [stepsP, evOf, *]
      clear HOO
      go_wp2_with (first | (refine wpList_append_ev _ _ (w.heap.size + 1) _ _ ([] : List Ev) [(⟨tk, 5, p.id, 0, 0⟩ : Ev)] (FO.out.alloc _) (vin_new _ (⟨tk, 5, p.id, 0, 0⟩ : Ev)) (by simp) (by have := FO0.out; have := FB.out.size; simp; omega) rfl rfl rfl rfl ?_; intro v2 w2 ho hg; have L0 := FO.out.lt; have FB : Hid (Below w.heap.size w w2) := belG (FB.out.alloc FB.out.size _) (FO.out.alloc _) (by omega) (by have := FB.out.size; simp; omega) hg; have FO0 : Hid (w.heap.size + 1 ≤ w2.heap.size) := (by have := FO0.out; have := hg.size; simp at this; show _ ≤ _; omega); have F0 : Hid (Blk w2 w.heap.size [.int .i64 p.id, .int .i64 p.fr, .int .i64 p.tw, .int .i64 p.sh, .int .i64 p.ca, .int .i64 p.st, .int .i64 p.pl]) := (F0.out.alloc _).grown hg (fun z => by have := (L0 _ z.symm).1; omega); have FO : Hid (OwnE w2 (w.heap.size + 1) v2 (([] : List Ev) ++ [(⟨tk, 5, p.id, 0, 0⟩ : Ev)])) := ho; clear ho hg L0; have x0 := F0.out.c 0 _ rfl; have x1 := F0.out.c 1 _ rfl; have x5 := F0.out.c 5 _ rfl; have x6 := F0.out.c 6 _ rfl))
      go_ret2
      exact ⟨⟨_, by rw [HV.out]; rfl, fun m hm => by rw [HV.out] at hm; cases hm; exact FO.out.base (by omega)⟩, FB.out⟩
    have b4 : (p.st == 4) = false := by simpa using s4
    have b5 : (p.st != 4) = true := by simpa using s4
    by_cases s1 : p.st = 1
    · have b1 : (p.st == 1) = true := by simpa using s1
      have HV : Hid (oo = some [(⟨tk, 2, p.id, p.fr, 0⟩ : Ev)]) := by show oo = _; rw [← HOO.out]; simp [stepsP, evOf, *]
      clear HOO
      go_wp2_with (first | (refine wpList_append_ev _ _ (w.heap.size + 1) _ _ ([] : List Ev) [(⟨tk, 2, p.id, p.fr, 0⟩ : Ev)] (FO.out.alloc _) (vin_new _ (⟨tk, 2, p.id, p.fr, 0⟩ : Ev)) (by simp) (by have := FO0.out; have := FB.out.size; simp; omega) rfl rfl rfl rfl ?_; intro v2 w2 ho hg; have L0 := FO.out.lt; have FB : Hid (Below w.heap.size w w2) := belG (FB.out.alloc FB.out.size _) (FO.out.alloc _) (by omega) (by have := FB.out.size; simp; omega) hg; have FO0 : Hid (w.heap.size + 1 ≤ w2.heap.size) := (by have := FO0.out; have := hg.size; simp at this; show _ ≤ _; omega); have F0 : Hid (Blk w2 w.heap.size [.int .i64 p.id, .int .i64 p.fr, .int .i64 p.tw, .int .i64 p.sh, .int .i64 p.ca, .int .i64 p.st, .int .i64 p.pl]) := (F0.out.alloc _).grown hg (fun z => by have := (L0 _ z.symm).1; omega); have FO : Hid (OwnE w2 (w.heap.size + 1) v2 (([] : List Ev) ++ [(⟨tk, 2, p.id, p.fr, 0⟩ : Ev)])) := ho; clear ho hg L0; have x0 := F0.out.c 0 _ rfl; have x1 := F0.out.c 1 _ rfl; have x5 := F0.out.c 5 _ rfl; have x6 := F0.out.c 6 _ rfl))
      go_ret2
      exact ⟨⟨_, by rw [HV.out]; rfl, fun m hm => by rw [HV.out] at hm; cases hm; exact FO.out.base (by omega)⟩, FB.out⟩
    have b1 : (p.st == 1) = false := by simpa using s1
    by_cases s2 : p.st = 2
    · have b2 : (p.st == 2) = true := by simpa using s2
      have HV : Hid (oo = some [(⟨tk, 2, p.id, p.fr, 0⟩ : Ev), (⟨tk, 3, p.id, p.pl, 0⟩ : Ev)]) := by show oo = _; rw [← HOO.out]; simp [stepsP, evOf, *]
      clear HOO
      go_wp2_with (first | (refine wpList_append_ev _ _ (w.heap.size + 1) _ _ ([] : List Ev) [(⟨tk, 2, p.id, p.fr, 0⟩ : Ev)] (FO.out.alloc _) (vin_new _ (⟨tk, 2, p.id, p.fr, 0⟩ : Ev)) (by simp) (by have := FO0.out; have := FB.out.size; simp; omega) rfl rfl rfl rfl ?_; intro v2 w2 ho hg; have L0 := FO.out.lt; have FB : Hid (Below w.heap.size w w2) := belG (FB.out.alloc FB.out.size _) (FO.out.alloc _) (by omega) (by have := FB.out.size; simp; omega) hg; have FO0 : Hid (w.heap.size + 1 ≤ w2.heap.size) := (by have := FO0.out; have := hg.size; simp at this; show _ ≤ _; omega); have F0 : Hid (Blk w2 w.heap.size [.int .i64 p.id, .int .i64 p.fr, .int .i64 p.tw, .int .i64 p.sh, .int .i64 p.ca, .int .i64 p.st, .int .i64 p.pl]) := (F0.out.alloc _).grown hg (fun z => by have := (L0 _ z.symm).1; omega); have FO : Hid (OwnE w2 (w.heap.size + 1) v2 (([] : List Ev) ++ [(⟨tk, 2, p.id, p.fr, 0⟩ : Ev)])) := ho; clear ho hg L0; have x0 := F0.out.c 0 _ rfl; have x1 := F0.out.c 1 _ rfl; have x5 := F0.out.c 5 _ rfl; have x6 := F0.out.c 6 _ rfl) | (refine wpList_append_ev _ _ (w.heap.size + 1) _ _ ([⟨tk, 2, p.id, p.fr, 0⟩] : List Ev) [(⟨tk, 3, p.id, p.pl, 0⟩ : Ev)] (FO.out.alloc _) (vin_new _ (⟨tk, 3, p.id, p.pl, 0⟩ : Ev)) (by simp) (by have := FO0.out; have := FB.out.size; simp; omega) rfl rfl rfl rfl ?_; intro v2 w2 ho hg; have L0 := FO.out.lt; have FB : Hid (Below w.heap.size w w2) := belG (FB.out.alloc FB.out.size _) (FO.out.alloc _) (by omega) (by have := FB.out.size; simp; omega) hg; have FO0 : Hid (w.heap.size + 1 ≤ w2.heap.size) := (by have := FO0.out; have := hg.size; simp at this; show _ ≤ _; omega); have F0 : Hid (Blk w2 w.heap.size [.int .i64 p.id, .int .i64 p.fr, .int .i64 p.tw, .int .i64 p.sh, .int .i64 p.ca, .int .i64 p.st, .int .i64 p.pl]) := (F0.out.alloc _).grown hg (fun z => by have := (L0 _ z.symm).1; omega); have FO : Hid (OwnE w2 (w.heap.size + 1) v2 (([⟨tk, 2, p.id, p.fr, 0⟩] : List Ev) ++ [(⟨tk, 3, p.id, p.pl, 0⟩ : Ev)])) := ho; clear ho hg L0; have x0 := F0.out.c 0 _ rfl; have x1 := F0.out.c 1 _ rfl; have x5 := F0.out.c 5 _ rfl; have x6 := F0.out.c 6 _ rfl))
      go_ret2
      exact ⟨⟨_, by rw [HV.out]; rfl, fun m hm => by rw [HV.out] at hm; cases hm; exact FO.out.base (by omega)⟩, FB.out⟩
    have b2 : (p.st == 2) = false := by simpa using s2
    by_cases s3 : p.st = 3
    · have b3 : (p.st == 3) = true := by simpa using s3
      have HV : Hid (oo = some [(⟨tk, 2, p.id, p.fr, 0⟩ : Ev), (⟨tk, 4, p.id, p.pl, 0⟩ : Ev)]) := by show oo = _; rw [← HOO.out]; simp [stepsP, evOf, *]
      clear HOO
      go_wp2_with (first | (refine wpList_append_ev _ _ (w.heap.size + 1) _ _ ([] : List Ev) [(⟨tk, 2, p.id, p.fr, 0⟩ : Ev)] (FO.out.alloc _) (vin_new _ (⟨tk, 2, p.id, p.fr, 0⟩ : Ev)) (by simp) (by have := FO0.out; have := FB.out.size; simp; omega) rfl rfl rfl rfl ?_; intro v2 w2 ho hg; have L0 := FO.out.lt; have FB : Hid (Below w.heap.size w w2) := belG (FB.out.alloc FB.out.size _) (FO.out.alloc _) (by omega) (by have := FB.out.size; simp; omega) hg; have FO0 : Hid (w.heap.size + 1 ≤ w2.heap.size) := (by have := FO0.out; have := hg.size; simp at this; show _ ≤ _; omega); have F0 : Hid (Blk w2 w.heap.size [.int .i64 p.id, .int .i64 p.fr, .int .i64 p.tw, .int .i64 p.sh, .int .i64 p.ca, .int .i64 p.st, .int .i64 p.pl]) := (F0.out.alloc _).grown hg (fun z => by have := (L0 _ z.symm).1; omega); have FO : Hid (OwnE w2 (w.heap.size + 1) v2 (([] : List Ev) ++ [(⟨tk, 2, p.id, p.fr, 0⟩ : Ev)])) := ho; clear ho hg L0; have x0 := F0.out.c 0 _ rfl; have x1 := F0.out.c 1 _ rfl; have x5 := F0.out.c 5 _ rfl; have x6 := F0.out.c 6 _ rfl) | (refine wpList_append_ev _ _ (w.heap.size + 1) _ _ ([⟨tk, 2, p.id, p.fr, 0⟩] : List Ev) [(⟨tk, 4, p.id, p.pl, 0⟩ : Ev)] (FO.out.alloc _) (vin_new _ (⟨tk, 4, p.id, p.pl, 0⟩ : Ev)) (by simp) (by have := FO0.out; have := FB.out.size; simp; omega) rfl rfl rfl rfl ?_; intro v2 w2 ho hg; have L0 := FO.out.lt; have FB : Hid (Below w.heap.size w w2) := belG (FB.out.alloc FB.out.size _) (FO.out.alloc _) (by omega) (by have := FB.out.size; simp; omega) hg; have FO0 : Hid (w.heap.size + 1 ≤ w2.heap.size) := (by have := FO0.out; have := hg.size; simp at this; show _ ≤ _; omega); have F0 : Hid (Blk w2 w.heap.size [.int .i64 p.id, .int .i64 p.fr, .int .i64 p.tw, .int .i64 p.sh, .int .i64 p.ca, .int .i64 p.st, .int .i64 p.pl]) := (F0.out.alloc _).grown hg (fun z => by have := (L0 _ z.symm).1; omega); have FO : Hid (OwnE w2 (w.heap.size + 1) v2 (([⟨tk, 2, p.id, p.fr, 0⟩] : List Ev) ++ [(⟨tk, 4, p.id, p.pl, 0⟩ : Ev)])) := ho; clear ho hg L0; have x0 := F0.out.c 0 _ rfl; have x1 := F0.out.c 1 _ rfl; have x5 := F0.out.c 5 _ rfl; have x6 := F0.out.c 6 _ rfl))
      go_ret2
      exact ⟨⟨_, by rw [HV.out]; rfl, fun m hm => by rw [HV.out] at hm; cases hm; exact FO.out.base (by omega)⟩, FB.out⟩
    have b3 : (p.st == 3) = false := by simpa using s3
    have HV : Hid (oo = none) := by show oo = _; rw [← HOO.out]; simp [stepsP, evOf, *]
    clear HOO
    go_wp2_with (first | (refine wpList_append_ev _ _ (w.heap.size + 1) _ _ ([] : List Ev) [(⟨tk, 2, p.id, p.fr, 0⟩ : Ev)] (FO.out.alloc _) (vin_new _ (⟨tk, 2, p.id, p.fr, 0⟩ : Ev)) (by simp) (by have := FO0.out; have := FB.out.size; simp; omega) rfl rfl rfl rfl ?_; intro v2 w2 ho hg; have L0 := FO.out.lt; have FB : Hid (Below w.heap.size w w2) := belG (FB.out.alloc FB.out.size _) (FO.out.alloc _) (by omega) (by have := FB.out.size; simp; omega) hg; have FO0 : Hid (w.heap.size + 1 ≤ w2.heap.size) := (by have := FO0.out; have := hg.size; simp at this; show _ ≤ _; omega); have F0 : Hid (Blk w2 w.heap.size [.int .i64 p.id, .int .i64 p.fr, .int .i64 p.tw, .int .i64 p.sh, .int .i64 p.ca, .int .i64 p.st, .int .i64 p.pl]) := (F0.out.alloc _).grown hg (fun z => by have := (L0 _ z.symm).1; omega); have FO : Hid (OwnE w2 (w.heap.size + 1) v2 (([] : List Ev) ++ [(⟨tk, 2, p.id, p.fr, 0⟩ : Ev)])) := ho; clear ho hg L0; have x0 := F0.out.c 0 _ rfl; have x1 := F0.out.c 1 _ rfl; have x5 := F0.out.c 5 _ rfl; have x6 := F0.out.c 6 _ rfl))
    go_ret2
    exact ⟨⟨_, by rw [HV.out]; rfl, fun m hm => by rw [HV.out] at hm; cases hm⟩, FB.out⟩
  have bw : (was == 0) = false := by simpa using ew
  by_cases ew1 : was = 1
  · subst ew1
    by_cases s2 : p.st = 2
    · have b2 : (p.st == 2) = true := by simpa using s2
      have HV : Hid (oo = some [(⟨tk, 3, p.id, p.pl, 0⟩ : Ev)]) := by show oo = _; rw [← HOO.out]; simp [stepsP, evOf, *]
      clear HOO
      go_wp2_with (first | (refine wpList_append_ev _ _ (w.heap.size + 1) _ _ ([] : List Ev) [(⟨tk, 3, p.id, p.pl, 0⟩ : Ev)] (FO.out.alloc _) (vin_new _ (⟨tk, 3, p.id, p.pl, 0⟩ : Ev)) (by simp) (by have := FO0.out; have := FB.out.size; simp; omega) rfl rfl rfl rfl ?_; intro v2 w2 ho hg; have L0 := FO.out.lt; have FB : Hid (Below w.heap.size w w2) := belG (FB.out.alloc FB.out.size _) (FO.out.alloc _) (by omega) (by have := FB.out.size; simp; omega) hg; have FO0 : Hid (w.heap.size + 1 ≤ w2.heap.size) := (by have := FO0.out; have := hg.size; simp at this; show _ ≤ _; omega); have F0 : Hid (Blk w2 w.heap.size [.int .i64 p.id, .int .i64 p.fr, .int .i64 p.tw, .int .i64 p.sh, .int .i64 p.ca, .int .i64 p.st, .int .i64 p.pl]) := (F0.out.alloc _).grown hg (fun z => by have := (L0 _ z.symm).1; omega); have FO : Hid (OwnE w2 (w.heap.size + 1) v2 (([] : List Ev) ++ [(⟨tk, 3, p.id, p.pl, 0⟩ : Ev)])) := ho; clear ho hg L0; have x0 := F0.out.c 0 _ rfl; have x1 := F0.out.c 1 _ rfl; have x5 := F0.out.c 5 _ rfl; have x6 := F0.out.c 6 _ rfl))
      go_ret2
      exact ⟨⟨_, by rw [HV.out]; rfl, fun m hm => by rw [HV.out] at hm; cases hm; exact FO.out.base (by omega)⟩, FB.out⟩
    have b2 : (p.st == 2) = false := by simpa using s2
    by_cases s3 : p.st = 3
    · have b3 : (p.st == 3) = true := by simpa using s3
      have HV : Hid (oo = some [(⟨tk, 4, p.id, p.pl, 0⟩ : Ev)]) := by show oo = _; rw [← HOO.out]; simp [stepsP, evOf, *]
      clear HOO
      go_wp2_with (first | (refine wpList_append_ev _ _ (w.heap.size + 1) _ _ ([] : List Ev) [(⟨tk, 4, p.id, p.pl, 0⟩ : Ev)] (FO.out.alloc _) (vin_new _ (⟨tk, 4, p.id, p.pl, 0⟩ : Ev)) (by simp) (by have := FO0.out; have := FB.out.size; simp; omega) rfl rfl rfl rfl ?_; intro v2 w2 ho hg; have L0 := FO.out.lt; have FB : Hid (Below w.heap.size w w2) := belG (FB.out.alloc FB.out.size _) (FO.out.alloc _) (by omega) (by have := FB.out.size; simp; omega) hg; have FO0 : Hid (w.heap.size + 1 ≤ w2.heap.size) := (by have := FO0.out; have := hg.size; simp at this; show _ ≤ _; omega); have F0 : Hid (Blk w2 w.heap.size [.int .i64 p.id, .int .i64 p.fr, .int .i64 p.tw, .int .i64 p.sh, .int .i64 p.ca, .int .i64 p.st, .int .i64 p.pl]) := (F0.out.alloc _).grown hg (fun z => by have := (L0 _ z.symm).1; omega); have FO : Hid (OwnE w2 (w.heap.size + 1) v2 (([] : List Ev) ++ [(⟨tk, 4, p.id, p.pl, 0⟩ : Ev)])) := ho; clear ho hg L0; have x0 := F0.out.c 0 _ rfl; have x1 := F0.out.c 1 _ rfl; have x5 := F0.out.c 5 _ rfl; have x6 := F0.out.c 6 _ rfl))
      go_ret2
      exact ⟨⟨_, by rw [HV.out]; rfl, fun m hm => by rw [HV.out] at hm; cases hm; exact FO.out.base (by omega)⟩, FB.out⟩
    have b3 : (p.st == 3) = false := by simpa using s3
    have HV : Hid (oo = none) := by show oo = _; rw [← HOO.out]; simp [stepsP, evOf, *]
    clear HOO
    go_wp2_with fail
    go_ret2
    exact ⟨⟨_, by rw [HV.out]; rfl, fun m hm => by rw [HV.out] at hm; cases hm⟩, FB.out⟩
  have bg : decide (1 < was) = true := decide_eq_true (by omega)
  have HV : Hid (oo = none) := by show oo = _; rw [← HOO.out]; simp [stepsP, evOf, *]
  clear HOO
  go_wp2_with fail
  go_ret2
  exact ⟨⟨_, by rw [HV.out]; rfl, fun m hm => by rw [HV.out] at hm; cases hm⟩, FB.out⟩
end Go.Proofs.Ytiejogkhobiddaa
