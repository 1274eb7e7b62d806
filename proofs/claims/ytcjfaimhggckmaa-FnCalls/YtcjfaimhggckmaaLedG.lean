/-
  The program's ledger: what is done to a person.
-/
import Derived.Test.YtcjfaimhggckmaaLedA
import Derived.Test.YtcjfaimhggckmaaPersJ
import Derived.Deep.RegionHeld3
import Derived.BigGuardPart
namespace Go.Proofs.Ytcjfaimhggckmaa
open Go.RowKit Pl
set_option linter.unusedSimpArgs false
set_option linter.unusedVariables false

/-- A person in a block that may be written. -/
def PW (w : World) (b : Nat) (p : Pe) : Prop := ∀ k, k < 7 → w.cell? ⟨b, k, none⟩ = (cells7 p)[k]? ∧ w.frozen? ⟨b, k, none⟩ = false
theorem PW.p7 {w : World} {b : Nat} {p : Pe} (a : PW w b p) : P7 w b 0 p := ⟨(a 0 (by omega)).1, (a 1 (by omega)).1, (a 2 (by omega)).1, (a 3 (by omega)).1, (a 4 (by omega)).1, (a 5 (by omega)).1, (a 6 (by omega)).1⟩
theorem PW.lt {w : World} {b : Nat} {p : Pe} (a : PW w b p) : b < w.heap.size := a.p7.lt
theorem PW.of {W w : World} {b : Nat} {p : Pe} (a : PW W b p) (hc : ∀ o, w.cell? ⟨b, o, none⟩ = W.cell? ⟨b, o, none⟩) (hf : ∀ o, w.frozen? ⟨b, o, none⟩ = W.frozen? ⟨b, o, none⟩) : PW w b p := fun k hk => ⟨(hc k).trans (a k hk).1, (hf k).trans (a k hk).2⟩
theorem PW.below {W w : World} {b B : Nat} {p : Pe} (a : PW W b p) (hb : Below B W w) (hB : b < B) : PW w b p := a.of (fun o => hb.cell (p := ⟨b, o, none⟩) hB) (fun o => hb.frozen (p := ⟨b, o, none⟩) hB)
theorem PW.alloc {W : World} {b : Nat} {p : Pe} (a : PW W b p) (o : Obj) : PW (W.alloc o) b p := a.below ((Below.refl _ _).alloc (Nat.le_refl _) o) a.lt
theorem PW.other {W : World} {b k o : Nat} {u : Value} {p : Pe} (a : PW W b p) (hne : b ≠ k) : PW (W.setCell ⟨k, o, none⟩ u) b p :=
  a.of (fun _ => World.cell?_setCell_other _ _ _ _ (fun e => hne (congrArg Addr.block e).symm)) (fun _ => World.frozen?_setCell _ _ _ _)
theorem PW.at_ (w : World) (p : Pe) (T : TypeId) (b : Nat) (hb : b = w.heap.size) : PW (w.alloc (.cells #[.int .i64 p.id, .int .i64 p.fr, .int .i64 p.tw, .int .i64 p.sh, .int .i64 p.ca, .int .i64 p.st, .int .i64 p.pl] T)) b p := by
  subst hb
  intro k hk
  have : k = 0 ∨ k = 1 ∨ k = 2 ∨ k = 3 ∨ k = 4 ∨ k = 5 ∨ k = 6 := by omega
  rcases this with rfl | rfl | rfl | rfl | rfl | rfl | rfl <;> simp [cells7]
theorem PW.set {W : World} {b : Nat} {p q : Pe} (a : PW W b p) {k : Nat} (hk : k < 7) {u : Value} (e : (cells7 p).set k u = cells7 q) : PW (W.setCell ⟨b, k, none⟩ u) b q := by
  intro j hj
  rw [World.frozen?_setCell]
  refine ⟨?_, (a j hj).2⟩
  rw [← e, List.getElem?_set]
  by_cases ej : k = j
  · subst ej
    obtain ⟨v, hv⟩ : ∃ v, (cells7 p)[k]? = some v := ⟨_, List.getElem?_eq_getElem (by simp [cells7]; omega)⟩
    rw [if_pos rfl, if_pos (by simp [cells7]; omega)]
    exact World.cell?_setCell_same _ _ _ ((a k hk).1.trans hv)
  · rw [if_neg ej]
    exact (World.cell?_setCell_other _ _ _ _ (fun q => ej (congrArg Addr.off q))).trans (a j hj).1
theorem PW.put {W : World} {b : Nat} {p : Pe} (a : PW W b p) (q : Pe) : PW (putP W b 0 q) b q := by
  have s0 := a.set (k := 0) (by omega) (u := .int .i64 q.id) (q := ⟨q.id, p.fr, p.tw, p.sh, p.ca, p.st, p.pl⟩) rfl
  have s1 := s0.set (k := 1) (by omega) (u := .int .i64 q.fr) (q := ⟨q.id, q.fr, p.tw, p.sh, p.ca, p.st, p.pl⟩) rfl
  have s2 := s1.set (k := 2) (by omega) (u := .int .i64 q.tw) (q := ⟨q.id, q.fr, q.tw, p.sh, p.ca, p.st, p.pl⟩) rfl
  have s3 := s2.set (k := 3) (by omega) (u := .int .i64 q.sh) (q := ⟨q.id, q.fr, q.tw, q.sh, p.ca, p.st, p.pl⟩) rfl
  have s4 := s3.set (k := 4) (by omega) (u := .int .i64 q.ca) (q := ⟨q.id, q.fr, q.tw, q.sh, q.ca, p.st, p.pl⟩) rfl
  have s5 := s4.set (k := 5) (by omega) (u := .int .i64 q.st) (q := ⟨q.id, q.fr, q.tw, q.sh, q.ca, q.st, p.pl⟩) rfl
  exact s5.set (k := 6) (by omega) (u := .int .i64 q.pl) (q := q) rfl
theorem Cel.other {W : World} {b o k o' : Nat} {u v : Value} (a : Cel W b o v) (hne : b ≠ k) : Cel (W.setCell ⟨k, o', none⟩ u) b o v := ⟨(World.cell?_setCell_other _ _ _ _ (fun e => hne (congrArg Addr.block e).symm)).trans a.c0⟩
theorem ret_p {a b : Pe} (h : a = b) : Ending.returned (.agg #[.int .i64 a.id, .int .i64 a.fr, .int .i64 a.tw, .int .i64 a.sh, .int .i64 a.ca, .int .i64 a.st, .int .i64 a.pl]) = .returned (.agg #[.int .i64 b.id, .int .i64 b.fr, .int .i64 b.tw, .int .i64 b.sh, .int .i64 b.ca, .int .i64 b.st, .int .i64 b.pl]) := by rw [h]
set_option maxRecDepth 20000 in
set_option maxHeartbeats 16000000 in
theorem drop1_any (p : Pe) (w : World) :
    Calls Try.prog 28 #[.agg #[.int .i64 p.id, .int .i64 p.fr, .int .i64 p.tw, .int .i64 p.sh, .int .i64 p.ca, .int .i64 p.st, .int .i64 p.pl]] w fun e w' => e = .returned (.agg #[.int .i64 (dropP p).id, .int .i64 (dropP p).fr, .int .i64 (dropP p).tw, .int .i64 (dropP p).sh, .int .i64 (dropP p).ca, .int .i64 (dropP p).st, .int .i64 (dropP p).pl]) ∧ Below w.heap.size w w' := by
  by_cases k : p.st = 0
  · have bk : (p.st == 0) = true := by simpa using k
    have HE : Hid ((⟨p.id, p.fr, p.tw, p.sh, p.ca, 4, p.pl⟩ : Pe) = dropP p) := (if_pos k).symm
    clear k
    go_enter Try.func28, Try.ntmps28
    go_upto_region 1 with fail
    obtain ⟨W0, hW0⟩ : ∃ W0, W0 = ((w.alloc (.cells #[.int .i64 p.id, .int .i64 p.fr, .int .i64 p.tw, .int .i64 p.sh, .int .i64 p.ca, .int .i64 p.st, .int .i64 p.pl] 35)).alloc (.cells #[.int .i64 0, .int .i64 0, .int .i64 0, .int .i64 0, .int .i64 0, .int .i64 0, .int .i64 0] 35)) := ⟨_, rfl⟩
    have FP : Hid (PW W0 w.heap.size p) := by rw [hW0]; exact (PW.at_ w p _ _ rfl).alloc _
    have FR : Hid (PW W0 (w.heap.size + 1) zeroP) := by rw [hW0]; exact PW.at_ _ zeroP _ _ (by simp)
    have FB : Hid (Below w.heap.size w W0) := by rw [hW0]; exact ((Below.refl _ _).alloc (Nat.le_refl _) _).alloc (by simp) _
    rw [← hW0]
    clear hW0
    obtain ⟨z0, z1, z2, z3, z4, z5, z6⟩ := FP.out.p7
    have fz5 := (FP.out 5 (by omega)).2
    go_upto_region 2 with fail
    go_upto_region 3 with fail
    obtain ⟨W1, hW1⟩ : ∃ W1, W1 = W0.setCell ⟨w.heap.size, 5, none⟩ (.int .i64 4) := ⟨_, rfl⟩
    have FP : Hid (PW W1 w.heap.size (⟨p.id, p.fr, p.tw, p.sh, p.ca, 4, p.pl⟩ : Pe)) := by rw [hW1]; exact FP.out.set (k := 5) (by omega) rfl
    have FR : Hid (PW W1 (w.heap.size + 1) zeroP) := by rw [hW1]; exact FR.out.other (by omega)
    have FB : Hid (Below w.heap.size w W1) := by rw [hW1]; exact FB.out.setCell (Nat.le_refl _) _
    rw [← hW1]
    clear hW1
    clear z0 z1 z2 z3 z4 z5 z6 fz5
    obtain ⟨a0, a1, a2, a3, a4, a5, a6⟩ := FP.out.p7
    obtain ⟨r0, r1, r2, r3, r4, r5, r6⟩ := FR.out.p7
    have rz0 := (FR.out 0 (by omega)).2
    have rz1 := (FR.out 1 (by omega)).2
    have rz2 := (FR.out 2 (by omega)).2
    have rz3 := (FR.out 3 (by omega)).2
    have rz4 := (FR.out 4 (by omega)).2
    have rz5 := (FR.out 5 (by omega)).2
    have rz6 := (FR.out 6 (by omega)).2
    try dsimp only at a0 a1 a2 a3 a4 a5 a6
    go_wp2_with fail
    change bodyPost _ _ _ _ _ (putP W1 (w.heap.size + 1) 0 (⟨p.id, p.fr, p.tw, p.sh, p.ca, 4, p.pl⟩ : Pe))
    have FQ := FR.out.put (⟨p.id, p.fr, p.tw, p.sh, p.ca, 4, p.pl⟩ : Pe)
    have FB9 := below_putP FB.out (show w.heap.size ≤ w.heap.size + 1 by omega) 0 (⟨p.id, p.fr, p.tw, p.sh, p.ca, 4, p.pl⟩ : Pe)
    obtain ⟨W9, h9⟩ : ∃ W9, putP W1 (w.heap.size + 1) 0 (⟨p.id, p.fr, p.tw, p.sh, p.ca, 4, p.pl⟩ : Pe) = W9 := ⟨_, rfl⟩
    rw [h9] at FQ FB9 ⊢
    obtain ⟨y0, y1, y2, y3, y4, y5, y6⟩ := FQ.p7
    try dsimp only at y0 y1 y2 y3 y4 y5 y6
    exact bodyPost_ret (v := .agg #[.int .i64 (⟨p.id, p.fr, p.tw, p.sh, p.ca, 4, p.pl⟩ : Pe).id, .int .i64 (⟨p.id, p.fr, p.tw, p.sh, p.ca, 4, p.pl⟩ : Pe).fr, .int .i64 (⟨p.id, p.fr, p.tw, p.sh, p.ca, 4, p.pl⟩ : Pe).tw, .int .i64 (⟨p.id, p.fr, p.tw, p.sh, p.ca, 4, p.pl⟩ : Pe).sh, .int .i64 (⟨p.id, p.fr, p.tw, p.sh, p.ca, 4, p.pl⟩ : Pe).ca, .int .i64 (⟨p.id, p.fr, p.tw, p.sh, p.ca, 4, p.pl⟩ : Pe).st, .int .i64 (⟨p.id, p.fr, p.tw, p.sh, p.ca, 4, p.pl⟩ : Pe).pl]) (by simp [results, Try.results28, go_sem, y0, y1, y2, y3, y4, y5, y6]) rfl ⟨ret_p (by first | exact HE.out | rfl), FB9⟩
  · have bk : (p.st == 0) = false := by simpa using k
    have HE : Hid (p = dropP p) := (if_neg k).symm
    clear k
    go_enter Try.func28, Try.ntmps28
    go_upto_region 1 with fail
    obtain ⟨W0, hW0⟩ : ∃ W0, W0 = ((w.alloc (.cells #[.int .i64 p.id, .int .i64 p.fr, .int .i64 p.tw, .int .i64 p.sh, .int .i64 p.ca, .int .i64 p.st, .int .i64 p.pl] 35)).alloc (.cells #[.int .i64 0, .int .i64 0, .int .i64 0, .int .i64 0, .int .i64 0, .int .i64 0, .int .i64 0] 35)) := ⟨_, rfl⟩
    have FP : Hid (PW W0 w.heap.size p) := by rw [hW0]; exact (PW.at_ w p _ _ rfl).alloc _
    have FR : Hid (PW W0 (w.heap.size + 1) zeroP) := by rw [hW0]; exact PW.at_ _ zeroP _ _ (by simp)
    have FB : Hid (Below w.heap.size w W0) := by rw [hW0]; exact ((Below.refl _ _).alloc (Nat.le_refl _) _).alloc (by simp) _
    rw [← hW0]
    clear hW0
    obtain ⟨z0, z1, z2, z3, z4, z5, z6⟩ := FP.out.p7
    have fz5 := (FP.out 5 (by omega)).2
    go_upto_region 3 with fail
    clear z0 z1 z2 z3 z4 z5 z6 fz5
    obtain ⟨a0, a1, a2, a3, a4, a5, a6⟩ := FP.out.p7
    obtain ⟨r0, r1, r2, r3, r4, r5, r6⟩ := FR.out.p7
    have rz0 := (FR.out 0 (by omega)).2
    have rz1 := (FR.out 1 (by omega)).2
    have rz2 := (FR.out 2 (by omega)).2
    have rz3 := (FR.out 3 (by omega)).2
    have rz4 := (FR.out 4 (by omega)).2
    have rz5 := (FR.out 5 (by omega)).2
    have rz6 := (FR.out 6 (by omega)).2
    try dsimp only at a0 a1 a2 a3 a4 a5 a6
    go_wp2_with fail
    change bodyPost _ _ _ _ _ (putP W0 (w.heap.size + 1) 0 p)
    have FQ := FR.out.put p
    have FB9 := below_putP FB.out (show w.heap.size ≤ w.heap.size + 1 by omega) 0 p
    obtain ⟨W9, h9⟩ : ∃ W9, putP W0 (w.heap.size + 1) 0 p = W9 := ⟨_, rfl⟩
    rw [h9] at FQ FB9 ⊢
    obtain ⟨y0, y1, y2, y3, y4, y5, y6⟩ := FQ.p7
    try dsimp only at y0 y1 y2 y3 y4 y5 y6
    exact bodyPost_ret (v := .agg #[.int .i64 p.id, .int .i64 p.fr, .int .i64 p.tw, .int .i64 p.sh, .int .i64 p.ca, .int .i64 p.st, .int .i64 p.pl]) (by simp [results, Try.results28, go_sem, y0, y1, y2, y3, y4, y5, y6]) rfl ⟨ret_p (by first | exact HE.out | rfl), FB9⟩
theorem gr_other {a c : World} {row : Option Nat} {k o : Nat} {u : Value} (h : a.grownBy c row) (hk : a.heap.size ≤ k) : a.grownBy (c.setCell ⟨k, o, none⟩ u) row :=
  ⟨h.os, h.tape, h.output, by simp [World.setCell]; exact h.size, fun i hi hne => (Below.heap_setCell _ _ _ _ (fun e => by simp at e; omega)).trans (h.block i hi hne)⟩
theorem gr_putP {a c : World} {row : Option Nat} {k : Nat} (h : a.grownBy c row) (hk : a.heap.size ≤ k) (o : Nat) (q : Pe) : a.grownBy (putP c k o q) row :=
  gr_other (gr_other (gr_other (gr_other (gr_other (gr_other (gr_other h hk) hk) hk) hk) hk) hk) hk
/-- A number in a block that may be written. -/
structure FC (w : World) (b : Nat) (x : Int) : Prop where
  c0 : w.cell? ⟨b, 0, none⟩ = some (.int .i64 x)
  f0 : w.frozen? ⟨b, 0, none⟩ = false
theorem FC.lt {w : World} {b : Nat} {x : Int} (a : FC w b x) : b < w.heap.size := World.block_lt_of_cell? w _ a.c0
theorem FC.below {W w : World} {b B : Nat} {x : Int} (a : FC W b x) (hb : Below B W w) (hB : b < B) : FC w b x := ⟨(hb.cell (p := ⟨b, 0, none⟩) hB).trans a.c0, (hb.frozen (p := ⟨b, 0, none⟩) hB).trans a.f0⟩
theorem FC.alloc {W : World} {b : Nat} {x : Int} (a : FC W b x) (o : Obj) : FC (W.alloc o) b x := a.below ((Below.refl _ _).alloc (Nat.le_refl _) o) a.lt
theorem FC.at_ (w : World) (x : Int) (T : TypeId) (b : Nat) (hb : b = w.heap.size) : FC (w.alloc (.cells #[.int .i64 x] T)) b x := by
  subst hb
  constructor <;> simp
theorem FC.other {W : World} {b k o : Nat} {u : Value} {x : Int} (a : FC W b x) (hne : b ≠ k) : FC (W.setCell ⟨k, o, none⟩ u) b x := ⟨(World.cell?_setCell_other _ _ _ _ (fun e => hne (congrArg Addr.block e).symm)).trans a.c0, (World.frozen?_setCell _ _ _ _).trans a.f0⟩
theorem FC.set {W : World} {b : Nat} {x : Int} (a : FC W b x) (y : Int) : FC (W.setCell ⟨b, 0, none⟩ (.int .i64 y)) b y := ⟨World.cell?_setCell_same _ _ _ a.c0, (World.frozen?_setCell _ _ _ _).trans a.f0⟩
theorem FC.putP {W : World} {b k : Nat} {x : Int} (a : FC W b x) (hne : b ≠ k) (o : Nat) (q : Pe) : FC (putP W k o q) b x := ((((((a.other hne).other hne).other hne).other hne).other hne).other hne).other hne
/-- Who boards, and how many places are free then. -/
def brdR (fre sh ca fl : Int) (p : Pe) : Pe × Int := if (0 < fre ∧ isW 0 sh ca p = true) ∧ p.fr = fl then (boardP p, fre - 1) else (p, fre)
end Go.Proofs.Ytcjfaimhggckmaa
