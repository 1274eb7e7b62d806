/-
  The model's ledger: a copy; rows that are turned.
-/
import Derived.Test.YtoekhkolakielaaPersD
import Derived.Test.YtoekhkolakielaaFnd
namespace Go.Proofs.Ytoekhkolakielaa
open Go.RowKit Pl
set_option linter.unusedSimpArgs false
set_option linter.unusedVariables false

theorem Own.base {w : World} {B C : Nat} {v : Value} {l : List Pe} (h : Own w B v l) (hC : C ≤ B) : Own w C v l := by
  refine ⟨h.1, ?_⟩
  rcases h.2 with hn | ⟨g, cap, cur, e, hB, rest⟩
  · exact Or.inl hn
  · exact Or.inr ⟨g, cap, cur, e, Nat.le_trans hC hB, rest⟩
theorem LW.grown {W w : World} {b : Nat} {nx : Int} {v : Value} {row : Option Nat} (a : LW W b nx v) (hg : W.grownBy w row) (hne : some b ≠ row) : LW w b nx v :=
  a.of (fun o => World.cell?_of_block (w := W) (hg.block b a.lt hne)) (fun o => World.frozen?_of_block (w := W) (hg.block b a.lt hne))
theorem news_at {w : World} {b o : Nat} {l : List Pe} (h : ∀ i p, l[i]? = some p → P7 w b (o + i * 7) p) : ∀ j u, (flat l)[j]? = some u → w.cell? ((⟨b, o, none⟩ : Addr).add j) = some u := by
  intro j u hu
  have hj : j < l.length * 7 := by
    rw [← flat_length]
    exact (List.getElem?_eq_some_iff.1 hu).1
  have e : j = j / 7 * 7 + j % 7 := by omega
  have h3 : j % 7 < 7 := Nat.mod_lt _ (by omega)
  obtain ⟨p, hp⟩ : ∃ p, l[j / 7]? = some p := ⟨_, List.getElem?_eq_getElem (by omega)⟩
  have h2 := flat_get hp h3
  rw [← e, hu] at h2
  obtain ⟨c0, c1, c2, c3, c4, c5, c6⟩ := h (j / 7) p hp
  have ea : (⟨b, o, none⟩ : Addr).add j = ⟨b, o + j, none⟩ := by simp [Addr.add]
  rw [ea]
  have ej : o + j = o + j / 7 * 7 + j % 7 := by omega
  rw [ej, h2]
  have : j % 7 = 0 ∨ j % 7 = 1 ∨ j % 7 = 2 ∨ j % 7 = 3 ∨ j % 7 = 4 ∨ j % 7 = 5 ∨ j % 7 = 6 := by omega
  rcases this with q | q | q | q | q | q | q <;> rw [q]
  · exact c0
  · exact c1
  · exact c2
  · exact c3
  · exact c4
  · exact c5
  · exact c6
theorem own_empty (w : World) (B : Nat) (hB : B ≤ w.heap.size) : Own (w.alloc (.cells #[] 42)) B (.slice (some ⟨w.heap.size, 0, none⟩) 0 0) [] :=
  World.ownsRow_made (base := B) (e := 42) (size := 7) w #[] 0 hB (by unfold maxLen; omega) rfl
set_option maxRecDepth 20000 in
set_option maxHeartbeats 16000000 in
theorem l7Copy_any (nx : Int) (b o cap : Nat) (l : List Pe) (hl : l.length ≤ 1048576) (w : World) (hP : ∀ i p, l[i]? = some p → P7 w b (o + i * 7) p) :
    Calls Try.prog 20 #[.agg #[.int .i64 nx, .slice (some ⟨b, o, none⟩) l.length cap]] w fun e w' => ∃ g cap', e = .returned (.agg #[.int .i64 nx, .slice (some ⟨g, 0, none⟩) l.length cap']) ∧ Ow w' w.heap.size g l.length cap' l ∧ Below w.heap.size w w' := by
  have F0 : Hid (LW ((w.alloc (.cells #[.int .i64 nx, .slice (some ⟨b, o, none⟩) l.length cap] 28)).alloc (.cells #[.int .i64 0, .slice none 0 0] 28)) w.heap.size nx (.slice (some ⟨b, o, none⟩) l.length cap)) := (LW.at_ w nx (.slice (some ⟨b, o, none⟩) l.length cap) _ _ rfl).alloc _
  have F1 : Hid (LW ((w.alloc (.cells #[.int .i64 nx, .slice (some ⟨b, o, none⟩) l.length cap] 28)).alloc (.cells #[.int .i64 0, .slice none 0 0] 28)) (w.heap.size + 1) 0 (.slice none 0 0)) := LW.at_ _ 0 (.slice none 0 0) _ _ (by simp)
  have FB : Hid (Below w.heap.size w ((w.alloc (.cells #[.int .i64 nx, .slice (some ⟨b, o, none⟩) l.length cap] 28)).alloc (.cells #[.int .i64 0, .slice none 0 0] 28))) := ((Below.refl _ _).alloc (Nat.le_refl _) _).alloc (by simp) _
  obtain ⟨W0, hW0⟩ : ∃ W0, W0 = ((w.alloc (.cells #[.int .i64 nx, .slice (some ⟨b, o, none⟩) l.length cap] 28)).alloc (.cells #[.int .i64 0, .slice none 0 0] 28)) := ⟨_, rfl⟩
  rw [← hW0] at F0 F1 FB
  have HW0 : Hid (W0 = ((w.alloc (.cells #[.int .i64 nx, .slice (some ⟨b, o, none⟩) l.length cap] 28)).alloc (.cells #[.int .i64 0, .slice none 0 0] 28))) := hW0
  have FP : Hid (∀ i p, l[i]? = some p → P7 W0 b (o + i * 7) p) := fun i p hp => (hP i p hp).below FB.out (hP i p hp).lt
  have FE : Hid (Own (W0.alloc (.cells #[] 42)) W0.heap.size (.slice (some ⟨W0.heap.size, 0, none⟩) 0 0) []) := own_empty W0 _ (Nat.le_refl _)
  obtain ⟨i0, hi0, hz0, hz1, hz2⟩ := info_parts infoPE
  have hI : Hid (Try.prog.info? 42 = some i0 ∧ i0.zero = some (.agg (cells7 zeroP).toArray) ∧ i0.size = 7 ∧ i0.bytes = 56) := ⟨hi0, hz0, hz1, hz2⟩
  clear hW0 hP hi0 hz0 hz1 hz2
  go_enter Try.func20, Try.ntmps20
  go_upto_region 1 with fail
  rw [← HW0.out]
  clear HW0
  obtain ⟨x0_0, x0_1, y0_0, y0_1⟩ := F0.out
  have l1 := F1.out.lt
  obtain ⟨z0_0, z0_1, z1_0, z1_1⟩ := F0.out.alloc (.cells #[] 42)
  have l0_ := Nat.ne_of_gt F0.out.lt
  have l0' := Nat.ne_of_lt F0.out.lt
  go_upto_region 2 with (first | (at_builtin; go_loud (refine wpList_append_own _ rfl _ _ 26 rfl W0.heap.size 42 i0 (.agg (cells7 zeroP).toArray) 7 56 undPS hI.out.1 hI.out.2.1 hI.out.2.2.1 hI.out.2.2.2 rfl (by omega) _ 0 [] rfl FE.out ⟨b, o, none⟩ l.length cap (flat l) rfl (flat_length l) (news_at (fun i p hp => (FP.out i p hp).alloc _)) (flat_one l) (by unfold maxLen; omega) (by omega) (by simp) ?_; intro v1 w1 ho hg hn; have FO : Hid (Own w1 W0.heap.size v1 l) := (by have q := ho; rw [Nat.zero_add, List.nil_append] at q; exact q); obtain ⟨g, cap', rfl, hBg, hgl, -⟩ := FO.out.cases.resolve_left (fun e => by have q := (hn.1 e.1).1; cases q); have FO : Hid (Ow w1 W0.heap.size g l.length cap' l) := Own.ow FO.out; clear hn ho; obtain ⟨q0, q1, q2, q3⟩ := (F0.out.alloc (.cells #[] 42)).grown hg (fun e => by have e2 : w.heap.size = W0.heap.size := Option.some.inj e; omega); have FB : Hid (Below w.heap.size w w1) := (FB.out.alloc FB.out.size _).grown hg (by simp; omega) (fun k hk => by have e : W0.heap.size = k := Option.some.inj hk; omega); have F0 : Hid (LW w1 w.heap.size nx (.slice (some ⟨b, o, none⟩) l.length cap)) := (F0.out.alloc (.cells #[] 42)).grown hg (fun e => by have e2 : w.heap.size = W0.heap.size := Option.some.inj e; omega); have F1 : Hid (LW w1 (w.heap.size + 1) 0 (.slice none 0 0)) := (F1.out.alloc (.cells #[] 42)).grown hg (fun e => by have e2 : w.heap.size + 1 = W0.heap.size := Option.some.inj e; omega))) | fail)
  have hle : w.heap.size ≤ W0.heap.size := by omega
  obtain ⟨W2, hw_⟩ : ∃ W2, W2 = w1.setCell ⟨w.heap.size, 1, none⟩ (.slice (some ⟨g, 0, none⟩) l.length cap') := ⟨_, rfl⟩
  rw [← hw_]
  have F0 : Hid (LW W2 w.heap.size nx (.slice (some ⟨g, 0, none⟩) l.length cap')) := by rw [hw_]; exact F0.out.set1 _
  have F1 : Hid (LW W2 (w.heap.size + 1) 0 (.slice none 0 0)) := by rw [hw_]; exact F1.out.other (by omega)
  have FO : Hid (Ow W2 W0.heap.size g l.length cap' l) := by rw [hw_]; exact FO.out.other (by simp; omega) _
  have FB : Hid (Below w.heap.size w W2) := by rw [hw_]; exact FB.out.setCell (Nat.le_refl _) _
  clear hw_ x0_0 x0_1 y0_0 y0_1 z0_0 z0_1 z1_0 z1_1 q0 q1 q2 q3 hg
  obtain ⟨x0_0, x0_1, y0_0, y0_1⟩ := F0.out
  obtain ⟨x1_0, x1_1, y1_0, y1_1⟩ := F1.out
  go_wp2_with fail
  exact bodyPost_ret (v := .agg #[.int .i64 nx, .slice (some ⟨g, 0, none⟩) l.length cap']) (by simp [results, Try.results20, go_sem, x1_0, x1_1]) rfl ⟨g, cap', rfl, ((FO.out.base hle).other (by simp; omega) _).other (by simp; omega) _, (FB.out.setCell (by simp) _).setCell (by simp) _⟩
end Go.Proofs.Ytoekhkolakielaa
