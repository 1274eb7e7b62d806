/-
  The base of what follows: plain numbers, cells, contracts of the smallest functions.
-/
import Derived.Test.YtdkikijnjkoddaaGreatPersD
import Derived.Test.YtdkikijnjkoddaaGreatFnd
import Derived.Test.YtdkikijnjkoddaaGreatPsA
import Derived.BigGuardPart
import Derived.Test.YtdkikijnjkoddaaGreatPersF
import Derived.Deep.RegionHeld3
/-
  The model's ledger: a copy; rows that are turned.
-/
namespace Go.Proofs.YtdkikijnjkoddaaGreat
open Go.RowKit Pl
set_option linter.unusedSimpArgs false
set_option linter.unusedVariables false

theorem Own.base {w : World} {B C : Nat} {v : Value} {l : List Pe} (h : Own w B v l) (hC : C ≤ B) : Own w C v l := by
  refine ⟨h.1, ?_⟩
  rcases h.2 with hn | ⟨g, cap, cur, e, hB, rest⟩
  · exact Or.inl hn
  · exact Or.inr ⟨g, cap, cur, e, Nat.le_trans hC hB, rest⟩
theorem LW.grown {W w : World} {b : Nat} {nx : Int} {v : Value} {row : Option Nat} (a : LW W b nx v) (hg : W.grownBy w row) (hne : some b ≠ row) : LW w b nx v :=
  a.of (fun o => World.cell?_of_block (w := W) (hg.block b a.lt hne)) (fun o => World.frozen?_of_block (w := W) (hg.block b a.lt hne))
theorem news_at {w : World} {b o : Nat} {l : List Pe} (h : ∀ i p, l[i]? = some p → P7 w b (o + i * 7) p) : ∀ j u, (flat l)[j]? = some u → w.cell? ((⟨b, o, none⟩ : Addr).add j) = some u := by
  intro j u hu
  have hj : j < l.length * 7 := by
    rw [← flat_length]
    exact (List.getElem?_eq_some_iff.1 hu).1
  have e : j = j / 7 * 7 + j % 7 := by omega
  have h3 : j % 7 < 7 := Nat.mod_lt _ (by omega)
  obtain ⟨p, hp⟩ : ∃ p, l[j / 7]? = some p := ⟨_, List.getElem?_eq_getElem (by omega)⟩
  have h2 := flat_get hp h3
  rw [← e, hu] at h2
  obtain ⟨c0, c1, c2, c3, c4, c5, c6⟩ := h (j / 7) p hp
  have ea : (⟨b, o, none⟩ : Addr).add j = ⟨b, o + j, none⟩ := by simp [Addr.add]
  rw [ea]
  have ej : o + j = o + j / 7 * 7 + j % 7 := by omega
  rw [ej, h2]
  have : j % 7 = 0 ∨ j % 7 = 1 ∨ j % 7 = 2 ∨ j % 7 = 3 ∨ j % 7 = 4 ∨ j % 7 = 5 ∨ j % 7 = 6 := by omega
  rcases this with q | q | q | q | q | q | q <;> rw [q]
  · exact c0
  · exact c1
  · exact c2
  · exact c3
  · exact c4
  · exact c5
  · exact c6
theorem own_empty (w : World) (B : Nat) (hB : B ≤ w.heap.size) : Own (w.alloc (.cells #[] 89)) B (.slice (some ⟨w.heap.size, 0, none⟩) 0 0) [] :=
  World.ownsRow_made (base := B) (e := 89) (size := 7) w #[] 0 hB (by unfold maxLen; omega) rfl
set_option maxRecDepth 20000 in
set_option maxHeartbeats 16000000 in
theorem l7Copy_any (nx : Int) (b o cap : Nat) (l : List Pe) (hl : l.length ≤ 1048576) (w : World) (hP : ∀ i p, l[i]? = some p → P7 w b (o + i * 7) p) :
    Calls Tryz.prog 40 #[.agg #[.int .i64 nx, .slice (some ⟨b, o, none⟩) l.length cap]] w fun e w' => ∃ g cap', e = .returned (.agg #[.int .i64 nx, .slice (some ⟨g, 0, none⟩) l.length cap']) ∧ Ow w' w.heap.size g l.length cap' l ∧ Below w.heap.size w w' := by
  have F0 : Hid (LW ((w.alloc (.cells #[.int .i64 nx, .slice (some ⟨b, o, none⟩) l.length cap] 35)).alloc (.cells #[.int .i64 0, .slice none 0 0] 35)) w.heap.size nx (.slice (some ⟨b, o, none⟩) l.length cap)) := (LW.at_ w nx (.slice (some ⟨b, o, none⟩) l.length cap) _ _ rfl).alloc _
  have F1 : Hid (LW ((w.alloc (.cells #[.int .i64 nx, .slice (some ⟨b, o, none⟩) l.length cap] 35)).alloc (.cells #[.int .i64 0, .slice none 0 0] 35)) (w.heap.size + 1) 0 (.slice none 0 0)) := LW.at_ _ 0 (.slice none 0 0) _ _ (by simp)
  have FB : Hid (Below w.heap.size w ((w.alloc (.cells #[.int .i64 nx, .slice (some ⟨b, o, none⟩) l.length cap] 35)).alloc (.cells #[.int .i64 0, .slice none 0 0] 35))) := ((Below.refl _ _).alloc (Nat.le_refl _) _).alloc (by simp) _
  obtain ⟨W0, hW0⟩ : ∃ W0, W0 = ((w.alloc (.cells #[.int .i64 nx, .slice (some ⟨b, o, none⟩) l.length cap] 35)).alloc (.cells #[.int .i64 0, .slice none 0 0] 35)) := ⟨_, rfl⟩
  rw [← hW0] at F0 F1 FB
  have HW0 : Hid (W0 = ((w.alloc (.cells #[.int .i64 nx, .slice (some ⟨b, o, none⟩) l.length cap] 35)).alloc (.cells #[.int .i64 0, .slice none 0 0] 35))) := hW0
  have FP : Hid (∀ i p, l[i]? = some p → P7 W0 b (o + i * 7) p) := fun i p hp => (hP i p hp).below FB.out (hP i p hp).lt
  have FE : Hid (Own (W0.alloc (.cells #[] 89)) W0.heap.size (.slice (some ⟨W0.heap.size, 0, none⟩) 0 0) []) := own_empty W0 _ (Nat.le_refl _)
  obtain ⟨i0, hi0, hz0, hz1, hz2⟩ := info_parts infoPE
  have hI : Hid (Tryz.prog.info? 89 = some i0 ∧ i0.zero = some (.agg (cells7 zeroP).toArray) ∧ i0.size = 7 ∧ i0.bytes = 56) := ⟨hi0, hz0, hz1, hz2⟩
  clear hW0 hP hi0 hz0 hz1 hz2
  go_enter Tryz.func40, Tryz.ntmps40
  go_upto_region 1 with fail
  rw [← HW0.out]
  clear HW0
  obtain ⟨x0_0, x0_1, y0_0, y0_1⟩ := F0.out
  have l1 := F1.out.lt
  obtain ⟨z0_0, z0_1, z1_0, z1_1⟩ := F0.out.alloc (.cells #[] 89)
  have l0_ := Nat.ne_of_gt F0.out.lt
  have l0' := Nat.ne_of_lt F0.out.lt
  go_upto_region 2 with (first | (at_builtin; go_loud (refine wpList_append_own _ rfl _ _ 33 rfl W0.heap.size 89 i0 (.agg (cells7 zeroP).toArray) 7 56 undPS hI.out.1 hI.out.2.1 hI.out.2.2.1 hI.out.2.2.2 rfl (by omega) _ 0 [] rfl FE.out ⟨b, o, none⟩ l.length cap (flat l) rfl (flat_length l) (news_at (fun i p hp => (FP.out i p hp).alloc _)) (flat_one l) (by unfold maxLen; omega) (by omega) (by simp) ?_; intro v1 w1 ho hg hn; have FO : Hid (Own w1 W0.heap.size v1 l) := (by have q := ho; rw [Nat.zero_add, List.nil_append] at q; exact q); obtain ⟨g, cap', rfl, hBg, hgl, -⟩ := FO.out.cases.resolve_left (fun e => by have q := (hn.1 e.1).1; cases q); have FO : Hid (Ow w1 W0.heap.size g l.length cap' l) := Own.ow FO.out; clear hn ho; obtain ⟨q0, q1, q2, q3⟩ := (F0.out.alloc (.cells #[] 89)).grown hg (fun e => by have e2 : w.heap.size = W0.heap.size := Option.some.inj e; omega); have FB : Hid (Below w.heap.size w w1) := (FB.out.alloc FB.out.size _).grown hg (by simp; omega) (fun k hk => by have e : W0.heap.size = k := Option.some.inj hk; omega); have F0 : Hid (LW w1 w.heap.size nx (.slice (some ⟨b, o, none⟩) l.length cap)) := (F0.out.alloc (.cells #[] 89)).grown hg (fun e => by have e2 : w.heap.size = W0.heap.size := Option.some.inj e; omega); have F1 : Hid (LW w1 (w.heap.size + 1) 0 (.slice none 0 0)) := (F1.out.alloc (.cells #[] 89)).grown hg (fun e => by have e2 : w.heap.size + 1 = W0.heap.size := Option.some.inj e; omega))) | fail)
  have hle : w.heap.size ≤ W0.heap.size := by omega
  obtain ⟨W2, hw_⟩ : ∃ W2, W2 = w1.setCell ⟨w.heap.size, 1, none⟩ (.slice (some ⟨g, 0, none⟩) l.length cap') := ⟨_, rfl⟩
  rw [← hw_]
  have F0 : Hid (LW W2 w.heap.size nx (.slice (some ⟨g, 0, none⟩) l.length cap')) := by rw [hw_]; exact F0.out.set1 _
  have F1 : Hid (LW W2 (w.heap.size + 1) 0 (.slice none 0 0)) := by rw [hw_]; exact F1.out.other (by omega)
  have FO : Hid (Ow W2 W0.heap.size g l.length cap' l) := by rw [hw_]; exact FO.out.other (by simp; omega) _
  have FB : Hid (Below w.heap.size w W2) := by rw [hw_]; exact FB.out.setCell (Nat.le_refl _) _
  clear hw_ x0_0 x0_1 y0_0 y0_1 z0_0 z0_1 z1_0 z1_1 q0 q1 q2 q3 hg
  obtain ⟨x0_0, x0_1, y0_0, y0_1⟩ := F0.out
  obtain ⟨x1_0, x1_1, y1_0, y1_1⟩ := F1.out
  go_wp2_with fail
  exact bodyPost_ret (v := .agg #[.int .i64 nx, .slice (some ⟨g, 0, none⟩) l.length cap']) (by simp [results, Tryz.results40, go_sem, x1_0, x1_1]) rfl ⟨g, cap', rfl, ((FO.out.base hle).other (by simp; omega) _).other (by simp; omega) _, (FB.out.setCell (by simp) _).setCell (by simp) _⟩
end Go.Proofs.YtdkikijnjkoddaaGreat

/-
  The model's ledger: people whose state is turned.
-/
namespace Go.Proofs.YtdkikijnjkoddaaGreat
open Go.RowKit Pl
set_option linter.unusedSimpArgs false
set_option linter.unusedVariables false

theorem LAt.grown {W w : World} {b : Nat} {nx : Int} {a : Option Addr} {len cap : Nat} {row : Option Nat} (h : LAt W b nx a len cap) (hg : W.grownBy w row) (hne : some b ≠ row) : LAt w b nx a len cap :=
  ⟨(World.cell?_of_block (w := W) (hg.block b h.lt hne)).trans h.c0, (World.cell?_of_block (w := W) (hg.block b h.lt hne)).trans h.c1⟩
theorem grown_set1 (W : World) (g o : Nat) (u : Value) : W.grownBy (W.setCell ⟨g, o, none⟩ u) (some g) := ⟨rfl, rfl, rfl, by simp [World.setCell], fun i _ hne => Below.heap_setCell _ _ _ _ (fun e => hne (by rw [e]))⟩
theorem grown_new (W : World) (o : Obj) (g : Nat) : W.grownBy (W.alloc o) (some g) := World.grownBy_alloc W o _
end Go.Proofs.YtdkikijnjkoddaaGreat

/-
  The model's ledger: what is asked; DropWaiting, AlightAt, LetOut.
-/
namespace Go.Proofs.YtdkikijnjkoddaaGreat
open Go.RowKit Pl
set_option linter.unusedSimpArgs false
set_option linter.unusedVariables false

/-- A ledger's result that isn't filled yet. -/
structure RL (w : World) (b : Nat) : Prop where
  c0 : w.cell? ⟨b, 0, none⟩ = some (.int .i64 0)
  c1 : w.cell? ⟨b, 1, none⟩ = some (.int .i64 0)
  c2 : w.cell? ⟨b, 2, none⟩ = some (.int .i64 0)
  c3 : w.cell? ⟨b, 3, none⟩ = some (.slice none 0 0)
  f0 : w.frozen? ⟨b, 0, none⟩ = false
  f1 : w.frozen? ⟨b, 1, none⟩ = false
  f2 : w.frozen? ⟨b, 2, none⟩ = false
  f3 : w.frozen? ⟨b, 3, none⟩ = false
theorem RL.lt {w : World} {b : Nat} (a : RL w b) : b < w.heap.size := World.block_lt_of_cell? w _ a.c0
theorem RL.at_ (w : World) (T : TypeId) (b : Nat) (hb : b = w.heap.size) : RL (w.alloc (.cells #[.int .i64 0, .int .i64 0, .int .i64 0, .slice none 0 0] T)) b := by
  subst hb
  constructor <;> simp
theorem RL.of {W w : World} {b : Nat} (a : RL W b) (hc : ∀ o, w.cell? ⟨b, o, none⟩ = W.cell? ⟨b, o, none⟩) (hf : ∀ o, w.frozen? ⟨b, o, none⟩ = W.frozen? ⟨b, o, none⟩) : RL w b :=
  ⟨(hc 0).trans a.c0, (hc 1).trans a.c1, (hc 2).trans a.c2, (hc 3).trans a.c3, (hf 0).trans a.f0, (hf 1).trans a.f1, (hf 2).trans a.f2, (hf 3).trans a.f3⟩
theorem RL.below {W w : World} {b B : Nat} (a : RL W b) (hb : Below B W w) (hB : b < B) : RL w b := a.of (fun o => hb.cell (p := ⟨b, o, none⟩) hB) (fun o => hb.frozen (p := ⟨b, o, none⟩) hB)
theorem RL.alloc {W : World} {b : Nat} (a : RL W b) (o : Obj) : RL (W.alloc o) b := a.below ((Below.refl _ _).alloc (Nat.le_refl _) o) a.lt
theorem RL.grown {W w : World} {b : Nat} {row : Option Nat} (a : RL W b) (hg : W.grownBy w row) (hne : some b ≠ row) : RL w b :=
  a.of (fun o => World.cell?_of_block (w := W) (hg.block b a.lt hne)) (fun o => World.frozen?_of_block (w := W) (hg.block b a.lt hne))
/-- A ledger is answered: its people lie in a row of their own. -/
def isLed (w : World) (k id nx : Int) (l : List Pe) (e : Ending) (w' : World) : Prop := ∃ v, e = .returned (.agg #[.int .i64 k, .int .i64 id, .int .i64 nx, v]) ∧ Own w' w.heap.size v l ∧ Below w.heap.size w w'
theorem own_nil (w : World) (B : Nat) : Own w B (.slice none 0 0) [] := World.ownsRow_nil w B _ 7
def carB (sh ca : Int) : Bool := inB sh 0 2 && inB ca 0 1
set_option maxRecDepth 20000 in
set_option maxHeartbeats 8000000 in
theorem l7Car_any (sh ca : Int) (w : World) :
    Calls Tryz.prog 42 #[.int .i64 sh, .int .i64 ca] w fun e w' => e = .returned (.bool (carB sh ca)) ∧ w' = w := by
  unfold carB
  cases k : inB sh 0 2
  all_goals
    go_enter Tryz.func42, Tryz.ntmps42
    go_wp2_with (go_at_call 37; refine (l1In_any _ _ _ _).mono ?_; rintro e w' ⟨rfl, hw⟩; obtain rfl := hw.symm; clear hw)
    go_ret
    exact ⟨ret_bool (by simp), rfl⟩
end Go.Proofs.YtdkikijnjkoddaaGreat

/-
  The model's ledger: who boards.
-/
namespace Go.Proofs.YtdkikijnjkoddaaGreat
open Go.RowKit Pl
set_option linter.unusedSimpArgs false
set_option linter.unusedVariables false

theorem gr_drew {a c : World} {row : Option Nat} (h : a.grownBy c row) : a.grownBy c.drew row := ⟨h.os, h.tape, h.output, h.size, h.block⟩
theorem gr_below {a b c : World} {row : Option Nat} (h : a.grownBy b row) (k : Below b.heap.size b c) : a.grownBy c row := ⟨k.os.trans h.os, k.tape.trans h.tape, k.output.trans h.output, Nat.le_trans h.size k.size, fun i hi hne => (k.block i (Nat.lt_of_lt_of_le hi h.size)).trans (h.block i hi hne)⟩
theorem HAt.grown {W w : World} {b : Nat} {h : Hs} {row : Option Nat} (a : HAt W b h) (hg : W.grownBy w row) (hne : some b ≠ row) : HAt w b h := by
  have hc : ∀ o, w.cell? ⟨b, o, none⟩ = W.cell? ⟨b, o, none⟩ := fun o => World.cell?_of_block (w := W) (hg.block b a.lt hne)
  exact ⟨(hc 0).trans a.c0, (hc 1).trans a.c1, (hc 2).trans a.c2, (hc 3).trans a.c3, (hc 4).trans a.c4, (hc 5).trans a.c5, (hc 6).trans a.c6, (hc 7).trans a.c7, (hc 8).trans a.c8, (hc 9).trans a.c9, (hc 10).trans a.c10, (hc 11).trans a.c11⟩
theorem Ow.lt {w : World} {B g n cap : Nat} {l : List Pe} (h : Ow w B g n cap l) : g < w.heap.size := h.bl.2
end Go.Proofs.YtdkikijnjkoddaaGreat

/-
  The model's ledger: who is next in a car.
-/
namespace Go.Proofs.YtdkikijnjkoddaaGreat
open Go.RowKit Pl
set_option linter.unusedSimpArgs false
set_option linter.unusedVariables false

def act (p : Pe) : Bool := p.st == 0 || p.st == 1
set_option maxRecDepth 20000 in
set_option maxHeartbeats 8000000 in
theorem l7Active_any (p : Pe) (w : World) :
    Calls Tryz.prog 44 #[.agg #[.int .i64 p.id, .int .i64 p.fr, .int .i64 p.tw, .int .i64 p.sh, .int .i64 p.ca, .int .i64 p.st, .int .i64 p.pl]] w fun e w' => e = .returned (.bool (act p)) ∧ Below w.heap.size w w' := by
  unfold act
  cases k : (p.st == 0)
  all_goals
    go_enter Tryz.func44, Tryz.ntmps44
    go_wp2
    go_ret
    exact ⟨ret_bool (by simp), by repeat (first | exact Below.refl _ _ | (refine Below.alloc ?_ ?_ _) | (refine Below.setCell ?_ ?_ _) | (simp; omega) | simp)⟩
end Go.Proofs.YtdkikijnjkoddaaGreat
