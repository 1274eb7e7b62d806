/-
  The program's ledger: what is done to a person.
-/
import Derived.Test.YtoekhkolakielaaLedA
import Derived.Test.YtoekhkolakielaaPersJ
import Derived.Deep.RegionHeld3
import Derived.BigGuardPart
namespace Go.Proofs.Ytoekhkolakielaa
open Go.RowKit Pl
set_option linter.unusedSimpArgs false
set_option linter.unusedVariables false

/-- A person in a block that may be written. -/
def PW (w : World) (b : Nat) (p : Pe) : Prop := ∀ k, k < 7 → w.cell? ⟨b, k, none⟩ = (cells7 p)[k]? ∧ w.frozen? ⟨b, k, none⟩ = false
theorem PW.p7 {w : World} {b : Nat} {p : Pe} (a : PW w b p) : P7 w b 0 p := ⟨(a 0 (by omega)).1, (a 1 (by omega)).1, (a 2 (by omega)).1, (a 3 (by omega)).1, (a 4 (by omega)).1, (a 5 (by omega)).1, (a 6 (by omega)).1⟩
theorem PW.lt {w : World} {b : Nat} {p : Pe} (a : PW w b p) : b < w.heap.size := a.p7.lt
theorem PW.of {W w : World} {b : Nat} {p : Pe} (a : PW W b p) (hc : ∀ o, w.cell? ⟨b, o, none⟩ = W.cell? ⟨b, o, none⟩) (hf : ∀ o, w.frozen? ⟨b, o, none⟩ = W.frozen? ⟨b, o, none⟩) : PW w b p := fun k hk => ⟨(hc k).trans (a k hk).1, (hf k).trans (a k hk).2⟩
theorem PW.below {W w : World} {b B : Nat} {p : Pe} (a : PW W b p) (hb : Below B W w) (hB : b < B) : PW w b p := a.of (fun o => hb.cell (p := ⟨b, o, none⟩) hB) (fun o => hb.frozen (p := ⟨b, o, none⟩) hB)
theorem PW.alloc {W : World} {b : Nat} {p : Pe} (a : PW W b p) (o : Obj) : PW (W.alloc o) b p := a.below ((Below.refl _ _).alloc (Nat.le_refl _) o) a.lt
theorem PW.other {W : World} {b k o : Nat} {u : Value} {p : Pe} (a : PW W b p) (hne : b ≠ k) : PW (W.setCell ⟨k, o, none⟩ u) b p :=
  a.of (fun _ => World.cell?_setCell_other _ _ _ _ (fun e => hne (congrArg Addr.block e).symm)) (fun _ => World.frozen?_setCell _ _ _ _)
theorem PW.at_ (w : World) (p : Pe) (T : TypeId) (b : Nat) (hb : b = w.heap.size) : PW (w.alloc (.cells #[.int .i64 p.id, .int .i64 p.fr, .int .i64 p.tw, .int .i64 p.sh, .int .i64 p.ca, .int .i64 p.st, .int .i64 p.pl] T)) b p := by
  subst hb
  intro k hk
  have : k = 0 ∨ k = 1 ∨ k = 2 ∨ k = 3 ∨ k = 4 ∨ k = 5 ∨ k = 6 := by omega
  rcases this with rfl | rfl | rfl | rfl | rfl | rfl | rfl <;> simp [cells7]
theorem PW.set {W : World} {b : Nat} {p q : Pe} (a : PW W b p) {k : Nat} (hk : k < 7) {u : Value} (e : (cells7 p).set k u = cells7 q) : PW (W.setCell ⟨b, k, none⟩ u) b q := by
  intro j hj
  rw [World.frozen?_setCell]
  refine ⟨?_, (a j hj).2⟩
  rw [← e, List.getElem?_set]
  by_cases ej : k = j
  · subst ej
    obtain ⟨v, hv⟩ : ∃ v, (cells7 p)[k]? = some v := ⟨_, List.getElem?_eq_getElem (by simp [cells7]; omega)⟩
    rw [if_pos rfl, if_pos (by simp [cells7]; omega)]
    exact World.cell?_setCell_same _ _ _ ((a k hk).1.trans hv)
  · rw [if_neg ej]
    exact (World.cell?_setCell_other _ _ _ _ (fun q => ej (congrArg Addr.off q))).trans (a j hj).1
theorem PW.put {W : World} {b : Nat} {p : Pe} (a : PW W b p) (q : Pe) : PW (putP W b 0 q) b q := by
  have s0 := a.set (k := 0) (by omega) (u := .int .i64 q.id) (q := ⟨q.id, p.fr, p.tw, p.sh, p.ca, p.st, p.pl⟩) rfl
  have s1 := s0.set (k := 1) (by omega) (u := .int .i64 q.fr) (q := ⟨q.id, q.fr, p.tw, p.sh, p.ca, p.st, p.pl⟩) rfl
  have s2 := s1.set (k := 2) (by omega) (u := .int .i64 q.tw) (q := ⟨q.id, q.fr, q.tw, p.sh, p.ca, p.st, p.pl⟩) rfl
  have s3 := s2.set (k := 3) (by omega) (u := .int .i64 q.sh) (q := ⟨q.id, q.fr, q.tw, q.sh, p.ca, p.st, p.pl⟩) rfl
  have s4 := s3.set (k := 4) (by omega) (u := .int .i64 q.ca) (q := ⟨q.id, q.fr, q.tw, q.sh, q.ca, p.st, p.pl⟩) rfl
  have s5 := s4.set (k := 5) (by omega) (u := .int .i64 q.st) (q := ⟨q.id, q.fr, q.tw, q.sh, q.ca, q.st, p.pl⟩) rfl
  exact s5.set (k := 6) (by omega) (u := .int .i64 q.pl) (q := q) rfl
theorem Cel.other {W : World} {b o k o' : Nat} {u v : Value} (a : Cel W b o v) (hne : b ≠ k) : Cel (W.setCell ⟨k, o', none⟩ u) b o v := ⟨(World.cell?_setCell_other _ _ _ _ (fun e => hne (congrArg Addr.block e).symm)).trans a.c0⟩
theorem ret_p {a b : Pe} (h : a = b) : Ending.returned (.agg #[.int .i64 a.id, .int .i64 a.fr, .int .i64 a.tw, .int .i64 a.sh, .int .i64 a.ca, .int .i64 a.st, .int .i64 a.pl]) = .returned (.agg #[.int .i64 b.id, .int .i64 b.fr, .int .i64 b.tw, .int .i64 b.sh, .int .i64 b.ca, .int .i64 b.st, .int .i64 b.pl]) := by rw [h]
set_option maxRecDepth 20000 in
set_option maxHeartbeats 16000000 in
theorem alight1_any (p : Pe) (sh ca fl : Int) (b1 b2 b3 : Nat) (w : World) (C1 : Hid (Cel w b1 0 (.int .i64 sh))) (C2 : Hid (Cel w b2 0 (.int .i64 ca))) (C3 : Hid (Cel w b3 0 (.int .i64 fl))) :
    Calls Try.prog 22 #[.agg #[.int .i64 p.id, .int .i64 p.fr, .int .i64 p.tw, .int .i64 p.sh, .int .i64 p.ca, .int .i64 p.st, .int .i64 p.pl], .pointer (some ⟨b1, 0, none⟩), .pointer (some ⟨b2, 0, none⟩), .pointer (some ⟨b3, 0, none⟩)] w fun e w' => e = .returned (.agg #[.int .i64 (alightP sh ca fl p).id, .int .i64 (alightP sh ca fl p).fr, .int .i64 (alightP sh ca fl p).tw, .int .i64 (alightP sh ca fl p).sh, .int .i64 (alightP sh ca fl p).ca, .int .i64 (alightP sh ca fl p).st, .int .i64 (alightP sh ca fl p).pl]) ∧ Below w.heap.size w w' := by
  have h3 := C3.out.lt
  cases kw : isW 1 sh ca p
  · have HE : Hid (p = alightP sh ca fl p) := by
      exact (if_neg (fun q => by simp [isW, q.1, q.2.1, q.2.2.1] at kw)).symm
    go_enter Try.func22, Try.ntmps22
    go_upto_region 1 with fail
    obtain ⟨W0, hW0⟩ : ∃ W0, W0 = ((w.alloc (.cells #[.int .i64 p.id, .int .i64 p.fr, .int .i64 p.tw, .int .i64 p.sh, .int .i64 p.ca, .int .i64 p.st, .int .i64 p.pl] 42)).alloc (.cells #[.int .i64 0, .int .i64 0, .int .i64 0, .int .i64 0, .int .i64 0, .int .i64 0, .int .i64 0] 42)) := ⟨_, rfl⟩
    have FP : Hid (PW W0 w.heap.size p) := by rw [hW0]; exact (PW.at_ w p _ _ rfl).alloc _
    have FR : Hid (PW W0 (w.heap.size + 1) zeroP) := by rw [hW0]; exact PW.at_ _ zeroP _ _ (by simp)
    have FB : Hid (Below w.heap.size w W0) := by rw [hW0]; exact ((Below.refl _ _).alloc (Nat.le_refl _) _).alloc (by simp) _
    have C1 : Hid (Cel W0 b1 0 (.int .i64 sh)) := by rw [hW0]; exact (C1.out.alloc _).alloc _
    have C2 : Hid (Cel W0 b2 0 (.int .i64 ca)) := by rw [hW0]; exact (C2.out.alloc _).alloc _
    have C3 : Hid (Cel W0 b3 0 (.int .i64 fl)) := by rw [hW0]; exact (C3.out.alloc _).alloc _
    rw [← hW0]
    clear hW0
    obtain ⟨z0, z1, z2, z3, z4, z5, z6⟩ := FP.out.p7
    have c1 := C1.out.c0
    have c2 := C2.out.c0
    have c3 := C3.out.c0
    go_upto_region 3 with (go_at_call 18; refine (isWith_any p 1 sh ca _).mono ?_; rw [kw]; rintro e w2 ⟨rfl, hb⟩; have FP : Hid (PW w2 w.heap.size p) := FP.out.below hb FP.out.lt; have FR : Hid (PW w2 (w.heap.size + 1) zeroP) := FR.out.below hb FR.out.lt; have C1 : Hid (Cel w2 b1 0 (.int .i64 sh)) := C1.out.below hb C1.out.lt; have C2 : Hid (Cel w2 b2 0 (.int .i64 ca)) := C2.out.below hb C2.out.lt; have C3 : Hid (Cel w2 b3 0 (.int .i64 fl)) := C3.out.below hb C3.out.lt; have FB : Hid (Below w.heap.size w w2) := FB.out.trans (hb.mono FB.out.size); clear hb; obtain ⟨z0, z1, z2, z3, z4, z5, z6⟩ := FP.out.p7; have c1 := C1.out.c0; have c2 := C2.out.c0; have c3 := C3.out.c0)
    clear z0 z1 z2 z3 z4 z5 z6
    obtain ⟨a0, a1, a2, a3, a4, a5, a6⟩ := FP.out.p7
    obtain ⟨r0, r1, r2, r3, r4, r5, r6⟩ := FR.out.p7
    have rz0 := (FR.out 0 (by omega)).2
    have rz1 := (FR.out 1 (by omega)).2
    have rz2 := (FR.out 2 (by omega)).2
    have rz3 := (FR.out 3 (by omega)).2
    have rz4 := (FR.out 4 (by omega)).2
    have rz5 := (FR.out 5 (by omega)).2
    have rz6 := (FR.out 6 (by omega)).2
    try dsimp only at a0 a1 a2 a3 a4 a5 a6
    go_wp2_with fail
    change bodyPost _ _ _ _ _ (putP w2 (w.heap.size + 1) 0 p)
    have FQ := FR.out.put p
    have FB9 := below_putP FB.out (show w.heap.size ≤ w.heap.size + 1 by omega) 0 p
    obtain ⟨W9, h9⟩ : ∃ W9, putP w2 (w.heap.size + 1) 0 p = W9 := ⟨_, rfl⟩
    rw [h9] at FQ FB9 ⊢
    obtain ⟨y0, y1, y2, y3, y4, y5, y6⟩ := FQ.p7
    try dsimp only at y0 y1 y2 y3 y4 y5 y6
    exact bodyPost_ret (v := .agg #[.int .i64 p.id, .int .i64 p.fr, .int .i64 p.tw, .int .i64 p.sh, .int .i64 p.ca, .int .i64 p.st, .int .i64 p.pl]) (by simp [results, Try.results22, go_sem, y0, y1, y2, y3, y4, y5, y6]) rfl ⟨ret_p (by first | exact HE.out | rfl), FB9⟩
  · cases kt : (p.tw == fl)
    · have HE : Hid (p = alightP sh ca fl p) := by
        exact (if_neg (fun q => by simp [q.2.2.2] at kt)).symm
      go_enter Try.func22, Try.ntmps22
      go_upto_region 1 with fail
      obtain ⟨W0, hW0⟩ : ∃ W0, W0 = ((w.alloc (.cells #[.int .i64 p.id, .int .i64 p.fr, .int .i64 p.tw, .int .i64 p.sh, .int .i64 p.ca, .int .i64 p.st, .int .i64 p.pl] 42)).alloc (.cells #[.int .i64 0, .int .i64 0, .int .i64 0, .int .i64 0, .int .i64 0, .int .i64 0, .int .i64 0] 42)) := ⟨_, rfl⟩
      have FP : Hid (PW W0 w.heap.size p) := by rw [hW0]; exact (PW.at_ w p _ _ rfl).alloc _
      have FR : Hid (PW W0 (w.heap.size + 1) zeroP) := by rw [hW0]; exact PW.at_ _ zeroP _ _ (by simp)
      have FB : Hid (Below w.heap.size w W0) := by rw [hW0]; exact ((Below.refl _ _).alloc (Nat.le_refl _) _).alloc (by simp) _
      have C1 : Hid (Cel W0 b1 0 (.int .i64 sh)) := by rw [hW0]; exact (C1.out.alloc _).alloc _
      have C2 : Hid (Cel W0 b2 0 (.int .i64 ca)) := by rw [hW0]; exact (C2.out.alloc _).alloc _
      have C3 : Hid (Cel W0 b3 0 (.int .i64 fl)) := by rw [hW0]; exact (C3.out.alloc _).alloc _
      rw [← hW0]
      clear hW0
      obtain ⟨z0, z1, z2, z3, z4, z5, z6⟩ := FP.out.p7
      have c1 := C1.out.c0
      have c2 := C2.out.c0
      have c3 := C3.out.c0
      go_upto_region 3 with (go_at_call 18; refine (isWith_any p 1 sh ca _).mono ?_; rw [kw]; rintro e w2 ⟨rfl, hb⟩; have FP : Hid (PW w2 w.heap.size p) := FP.out.below hb FP.out.lt; have FR : Hid (PW w2 (w.heap.size + 1) zeroP) := FR.out.below hb FR.out.lt; have C1 : Hid (Cel w2 b1 0 (.int .i64 sh)) := C1.out.below hb C1.out.lt; have C2 : Hid (Cel w2 b2 0 (.int .i64 ca)) := C2.out.below hb C2.out.lt; have C3 : Hid (Cel w2 b3 0 (.int .i64 fl)) := C3.out.below hb C3.out.lt; have FB : Hid (Below w.heap.size w w2) := FB.out.trans (hb.mono FB.out.size); clear hb; obtain ⟨z0, z1, z2, z3, z4, z5, z6⟩ := FP.out.p7; have c1 := C1.out.c0; have c2 := C2.out.c0; have c3 := C3.out.c0)
      clear z0 z1 z2 z3 z4 z5 z6
      obtain ⟨a0, a1, a2, a3, a4, a5, a6⟩ := FP.out.p7
      obtain ⟨r0, r1, r2, r3, r4, r5, r6⟩ := FR.out.p7
      have rz0 := (FR.out 0 (by omega)).2
      have rz1 := (FR.out 1 (by omega)).2
      have rz2 := (FR.out 2 (by omega)).2
      have rz3 := (FR.out 3 (by omega)).2
      have rz4 := (FR.out 4 (by omega)).2
      have rz5 := (FR.out 5 (by omega)).2
      have rz6 := (FR.out 6 (by omega)).2
      try dsimp only at a0 a1 a2 a3 a4 a5 a6
      go_wp2_with fail
      change bodyPost _ _ _ _ _ (putP w2 (w.heap.size + 1) 0 p)
      have FQ := FR.out.put p
      have FB9 := below_putP FB.out (show w.heap.size ≤ w.heap.size + 1 by omega) 0 p
      obtain ⟨W9, h9⟩ : ∃ W9, putP w2 (w.heap.size + 1) 0 p = W9 := ⟨_, rfl⟩
      rw [h9] at FQ FB9 ⊢
      obtain ⟨y0, y1, y2, y3, y4, y5, y6⟩ := FQ.p7
      try dsimp only at y0 y1 y2 y3 y4 y5 y6
      exact bodyPost_ret (v := .agg #[.int .i64 p.id, .int .i64 p.fr, .int .i64 p.tw, .int .i64 p.sh, .int .i64 p.ca, .int .i64 p.st, .int .i64 p.pl]) (by simp [results, Try.results22, go_sem, y0, y1, y2, y3, y4, y5, y6]) rfl ⟨ret_p (by first | exact HE.out | rfl), FB9⟩
    · have HE : Hid ((⟨p.id, p.fr, p.tw, p.sh, p.ca, 2, fl⟩ : Pe) = alightP sh ca fl p) := by
        have q := kw
        unfold isW at q
        simp only [Bool.and_eq_true, beq_iff_eq] at q
        exact (if_pos ⟨q.1.2, q.2, q.1.1, by simpa using kt⟩).symm
      go_enter Try.func22, Try.ntmps22
      go_upto_region 1 with fail
      obtain ⟨W0, hW0⟩ : ∃ W0, W0 = ((w.alloc (.cells #[.int .i64 p.id, .int .i64 p.fr, .int .i64 p.tw, .int .i64 p.sh, .int .i64 p.ca, .int .i64 p.st, .int .i64 p.pl] 42)).alloc (.cells #[.int .i64 0, .int .i64 0, .int .i64 0, .int .i64 0, .int .i64 0, .int .i64 0, .int .i64 0] 42)) := ⟨_, rfl⟩
      have FP : Hid (PW W0 w.heap.size p) := by rw [hW0]; exact (PW.at_ w p _ _ rfl).alloc _
      have FR : Hid (PW W0 (w.heap.size + 1) zeroP) := by rw [hW0]; exact PW.at_ _ zeroP _ _ (by simp)
      have FB : Hid (Below w.heap.size w W0) := by rw [hW0]; exact ((Below.refl _ _).alloc (Nat.le_refl _) _).alloc (by simp) _
      have C1 : Hid (Cel W0 b1 0 (.int .i64 sh)) := by rw [hW0]; exact (C1.out.alloc _).alloc _
      have C2 : Hid (Cel W0 b2 0 (.int .i64 ca)) := by rw [hW0]; exact (C2.out.alloc _).alloc _
      have C3 : Hid (Cel W0 b3 0 (.int .i64 fl)) := by rw [hW0]; exact (C3.out.alloc _).alloc _
      rw [← hW0]
      clear hW0
      obtain ⟨z0, z1, z2, z3, z4, z5, z6⟩ := FP.out.p7
      have c1 := C1.out.c0
      have c2 := C2.out.c0
      have c3 := C3.out.c0
      go_upto_region 2 with (go_at_call 18; refine (isWith_any p 1 sh ca _).mono ?_; rw [kw]; rintro e w2 ⟨rfl, hb⟩; have FP : Hid (PW w2 w.heap.size p) := FP.out.below hb FP.out.lt; have FR : Hid (PW w2 (w.heap.size + 1) zeroP) := FR.out.below hb FR.out.lt; have C1 : Hid (Cel w2 b1 0 (.int .i64 sh)) := C1.out.below hb C1.out.lt; have C2 : Hid (Cel w2 b2 0 (.int .i64 ca)) := C2.out.below hb C2.out.lt; have C3 : Hid (Cel w2 b3 0 (.int .i64 fl)) := C3.out.below hb C3.out.lt; have FB : Hid (Below w.heap.size w w2) := FB.out.trans (hb.mono FB.out.size); clear hb; obtain ⟨z0, z1, z2, z3, z4, z5, z6⟩ := FP.out.p7; have c1 := C1.out.c0; have c2 := C2.out.c0; have c3 := C3.out.c0)
      clear z0 z1 z2 z3 z4 z5 z6
      have n3 : b3 < w.heap.size := h3
      have FP : Hid (PW w2.drew w.heap.size p) := FP.out.below (Below.refl _ _).drew FP.out.lt
      have FR : Hid (PW w2.drew (w.heap.size + 1) zeroP) := FR.out.below (Below.refl _ _).drew FR.out.lt
      have C3 : Hid (Cel w2.drew b3 0 (.int .i64 fl)) := C3.out.below (Below.refl _ _).drew C3.out.lt
      have FB : Hid (Below w.heap.size w w2.drew) := FB.out.drew
      have mf := C3.out.c0
      refine wp_region_held_drew (S := (fun w'' => w''.cell? ⟨b3, 0, none⟩ = some (.int .i64 fl))) (by kernel_rfl) (by (try dsimp only); first | exact mf | go_keep) (fun hHeld => ?_)
      obtain ⟨v_1, hw1⟩ : ∃ v_1, v_1 = w2.drew := ⟨_, rfl⟩
      have FP : Hid (PW v_1 w.heap.size p) := by rw [hw1]; exact FP.out
      have FR : Hid (PW v_1 (w.heap.size + 1) zeroP) := by rw [hw1]; exact FR.out
      have C3 : Hid (Cel v_1 b3 0 (.int .i64 fl)) := by rw [hw1]; exact C3.out
      have FB : Hid (Below w.heap.size w v_1) := by rw [hw1]; exact FB.out
      rw [← hw1] at hHeld ⊢
      clear hw1
      have mf := C3.out.c0
      refine tkz 0 rfl ?_
      refine tkz 1 rfl ?_
      refine wpAnyH_ready (rs := [2]) (by kernel_rfl) (by simp) ?_
      refine (AllReadyH.cons rfl (fun K hK => ?_) AllReadyH.nil)
      have u0 := (FP.out 5 (by omega)).1
      have u1 := (FP.out 5 (by omega)).2
      try dsimp only [cells7] at u0
      go_simp
      obtain ⟨v_2, hw2⟩ : ∃ v_2, v_2 = v_1.setCell ⟨w.heap.size, 5, none⟩ (.int .i64 2) := ⟨_, rfl⟩
      change K _ (v_1.setCell ⟨w.heap.size, 5, none⟩ (.int .i64 2))
      rw [← hw2]
      clear u0 u1
      have FP : Hid (PW v_2 w.heap.size (⟨p.id, p.fr, p.tw, p.sh, p.ca, 2, p.pl⟩ : Pe)) := by rw [hw2]; exact FP.out.set (k := 5) (by omega) rfl
      have FR : Hid (PW v_2 (w.heap.size + 1) zeroP) := by rw [hw2]; exact FR.out.other (by omega)
      have C3 : Hid (Cel v_2 b3 0 (.int .i64 fl)) := by rw [hw2]; exact C3.out.other (by omega)
      have FB : Hid (Below w.heap.size w v_2) := by rw [hw2]; exact FB.out.setCell (Nat.le_refl _) _
      clear hw2
      have mf := C3.out.c0
      refine hK.out _ _ (by (try dsimp only); first | exact mf | go_keep) (fun hHeld => ?_)
      clear hK K
      try simp only [Act.put, List.getElem_toArray, List.getElem_cons_succ, List.getElem_cons_zero, List.setIfInBounds_toArray, List.set_cons_zero, List.set_cons_succ]
      refine tkz 3 rfl ?_
      refine wpAnyH_ready (rs := [4]) (by kernel_rfl) (by simp) ?_
      refine (AllReadyH.cons rfl (fun K hK => ?_) AllReadyH.nil)
      have u0 := (FP.out 6 (by omega)).1
      have u1 := (FP.out 6 (by omega)).2
      try dsimp only [cells7] at u0
      go_simp
      obtain ⟨v_3, hw2⟩ : ∃ v_3, v_3 = v_2.setCell ⟨w.heap.size, 6, none⟩ (.int .i64 fl) := ⟨_, rfl⟩
      change K _ (v_2.setCell ⟨w.heap.size, 6, none⟩ (.int .i64 fl))
      rw [← hw2]
      clear u0 u1
      have FP : Hid (PW v_3 w.heap.size (⟨p.id, p.fr, p.tw, p.sh, p.ca, 2, fl⟩ : Pe)) := by rw [hw2]; exact FP.out.set (k := 6) (by omega) rfl
      have FR : Hid (PW v_3 (w.heap.size + 1) zeroP) := by rw [hw2]; exact FR.out.other (by omega)
      have C3 : Hid (Cel v_3 b3 0 (.int .i64 fl)) := by rw [hw2]; exact C3.out.other (by omega)
      have FB : Hid (Below w.heap.size w v_3) := by rw [hw2]; exact FB.out.setCell (Nat.le_refl _) _
      clear hw2
      have mf := C3.out.c0
      refine hK.out _ _ (by (try dsimp only); first | exact mf | go_keep) (fun hHeld => ?_)
      clear hK K
      try simp only [Act.put, List.getElem_toArray, List.getElem_cons_succ, List.getElem_cons_zero, List.setIfInBounds_toArray, List.set_cons_zero, List.set_cons_succ]
      refine wpAnyH_done (by kernel_rfl) ?_ _
      go_upto_region 3 with fail
      obtain ⟨W5, hW_⟩ : ∃ W5, W5 = v_3 := ⟨_, rfl⟩
      have FP : Hid (PW W5 w.heap.size (⟨p.id, p.fr, p.tw, p.sh, p.ca, 2, fl⟩ : Pe)) := by rw [hW_]; exact FP.out
      have FR : Hid (PW W5 (w.heap.size + 1) zeroP) := by rw [hW_]; exact FR.out
      have FB : Hid (Below w.heap.size w W5) := by rw [hW_]; exact FB.out
      rw [← hW_]
      clear hW_
      obtain ⟨a0, a1, a2, a3, a4, a5, a6⟩ := FP.out.p7
      obtain ⟨r0, r1, r2, r3, r4, r5, r6⟩ := FR.out.p7
      have rz0 := (FR.out 0 (by omega)).2
      have rz1 := (FR.out 1 (by omega)).2
      have rz2 := (FR.out 2 (by omega)).2
      have rz3 := (FR.out 3 (by omega)).2
      have rz4 := (FR.out 4 (by omega)).2
      have rz5 := (FR.out 5 (by omega)).2
      have rz6 := (FR.out 6 (by omega)).2
      try dsimp only at a0 a1 a2 a3 a4 a5 a6
      go_wp2_with fail
      change bodyPost _ _ _ _ _ (putP W5 (w.heap.size + 1) 0 (⟨p.id, p.fr, p.tw, p.sh, p.ca, 2, fl⟩ : Pe))
      have FQ := FR.out.put (⟨p.id, p.fr, p.tw, p.sh, p.ca, 2, fl⟩ : Pe)
      have FB9 := below_putP FB.out (show w.heap.size ≤ w.heap.size + 1 by omega) 0 (⟨p.id, p.fr, p.tw, p.sh, p.ca, 2, fl⟩ : Pe)
      obtain ⟨W9, h9⟩ : ∃ W9, putP W5 (w.heap.size + 1) 0 (⟨p.id, p.fr, p.tw, p.sh, p.ca, 2, fl⟩ : Pe) = W9 := ⟨_, rfl⟩
      rw [h9] at FQ FB9 ⊢
      obtain ⟨y0, y1, y2, y3, y4, y5, y6⟩ := FQ.p7
      try dsimp only at y0 y1 y2 y3 y4 y5 y6
      exact bodyPost_ret (v := .agg #[.int .i64 (⟨p.id, p.fr, p.tw, p.sh, p.ca, 2, fl⟩ : Pe).id, .int .i64 (⟨p.id, p.fr, p.tw, p.sh, p.ca, 2, fl⟩ : Pe).fr, .int .i64 (⟨p.id, p.fr, p.tw, p.sh, p.ca, 2, fl⟩ : Pe).tw, .int .i64 (⟨p.id, p.fr, p.tw, p.sh, p.ca, 2, fl⟩ : Pe).sh, .int .i64 (⟨p.id, p.fr, p.tw, p.sh, p.ca, 2, fl⟩ : Pe).ca, .int .i64 (⟨p.id, p.fr, p.tw, p.sh, p.ca, 2, fl⟩ : Pe).st, .int .i64 (⟨p.id, p.fr, p.tw, p.sh, p.ca, 2, fl⟩ : Pe).pl]) (by simp [results, Try.results22, go_sem, y0, y1, y2, y3, y4, y5, y6]) rfl ⟨ret_p (by first | exact HE.out | rfl), FB9⟩
set_option maxRecDepth 20000 in
set_option maxHeartbeats 16000000 in
theorem out1_any (p : Pe) (sh ca fl : Int) (b1 b2 b3 : Nat) (w : World) (C1 : Hid (Cel w b1 0 (.int .i64 sh))) (C2 : Hid (Cel w b2 0 (.int .i64 ca))) (C3 : Hid (Cel w b3 0 (.int .i64 fl))) :
    Calls Try.prog 23 #[.agg #[.int .i64 p.id, .int .i64 p.fr, .int .i64 p.tw, .int .i64 p.sh, .int .i64 p.ca, .int .i64 p.st, .int .i64 p.pl], .pointer (some ⟨b1, 0, none⟩), .pointer (some ⟨b2, 0, none⟩), .pointer (some ⟨b3, 0, none⟩)] w fun e w' => e = .returned (.agg #[.int .i64 (outP sh ca fl p).id, .int .i64 (outP sh ca fl p).fr, .int .i64 (outP sh ca fl p).tw, .int .i64 (outP sh ca fl p).sh, .int .i64 (outP sh ca fl p).ca, .int .i64 (outP sh ca fl p).st, .int .i64 (outP sh ca fl p).pl]) ∧ Below w.heap.size w w' := by
  have h3 := C3.out.lt
  cases kw : isW 1 sh ca p
  · have HE : Hid (p = outP sh ca fl p) := by
      exact (if_neg (fun q => by simp [isW, q.1, q.2.1, q.2.2] at kw)).symm
    go_enter Try.func23, Try.ntmps23
    go_upto_region 1 with fail
    obtain ⟨W0, hW0⟩ : ∃ W0, W0 = ((w.alloc (.cells #[.int .i64 p.id, .int .i64 p.fr, .int .i64 p.tw, .int .i64 p.sh, .int .i64 p.ca, .int .i64 p.st, .int .i64 p.pl] 42)).alloc (.cells #[.int .i64 0, .int .i64 0, .int .i64 0, .int .i64 0, .int .i64 0, .int .i64 0, .int .i64 0] 42)) := ⟨_, rfl⟩
    have FP : Hid (PW W0 w.heap.size p) := by rw [hW0]; exact (PW.at_ w p _ _ rfl).alloc _
    have FR : Hid (PW W0 (w.heap.size + 1) zeroP) := by rw [hW0]; exact PW.at_ _ zeroP _ _ (by simp)
    have FB : Hid (Below w.heap.size w W0) := by rw [hW0]; exact ((Below.refl _ _).alloc (Nat.le_refl _) _).alloc (by simp) _
    have C1 : Hid (Cel W0 b1 0 (.int .i64 sh)) := by rw [hW0]; exact (C1.out.alloc _).alloc _
    have C2 : Hid (Cel W0 b2 0 (.int .i64 ca)) := by rw [hW0]; exact (C2.out.alloc _).alloc _
    have C3 : Hid (Cel W0 b3 0 (.int .i64 fl)) := by rw [hW0]; exact (C3.out.alloc _).alloc _
    rw [← hW0]
    clear hW0
    obtain ⟨z0, z1, z2, z3, z4, z5, z6⟩ := FP.out.p7
    have c1 := C1.out.c0
    have c2 := C2.out.c0
    have c3 := C3.out.c0
    go_upto_region 3 with (go_at_call 18; refine (isWith_any p 1 sh ca _).mono ?_; rw [kw]; rintro e w2 ⟨rfl, hb⟩; have FP : Hid (PW w2 w.heap.size p) := FP.out.below hb FP.out.lt; have FR : Hid (PW w2 (w.heap.size + 1) zeroP) := FR.out.below hb FR.out.lt; have C1 : Hid (Cel w2 b1 0 (.int .i64 sh)) := C1.out.below hb C1.out.lt; have C2 : Hid (Cel w2 b2 0 (.int .i64 ca)) := C2.out.below hb C2.out.lt; have C3 : Hid (Cel w2 b3 0 (.int .i64 fl)) := C3.out.below hb C3.out.lt; have FB : Hid (Below w.heap.size w w2) := FB.out.trans (hb.mono FB.out.size); clear hb; obtain ⟨z0, z1, z2, z3, z4, z5, z6⟩ := FP.out.p7; have c1 := C1.out.c0; have c2 := C2.out.c0; have c3 := C3.out.c0)
    clear z0 z1 z2 z3 z4 z5 z6
    obtain ⟨a0, a1, a2, a3, a4, a5, a6⟩ := FP.out.p7
    obtain ⟨r0, r1, r2, r3, r4, r5, r6⟩ := FR.out.p7
    have rz0 := (FR.out 0 (by omega)).2
    have rz1 := (FR.out 1 (by omega)).2
    have rz2 := (FR.out 2 (by omega)).2
    have rz3 := (FR.out 3 (by omega)).2
    have rz4 := (FR.out 4 (by omega)).2
    have rz5 := (FR.out 5 (by omega)).2
    have rz6 := (FR.out 6 (by omega)).2
    try dsimp only at a0 a1 a2 a3 a4 a5 a6
    go_wp2_with fail
    change bodyPost _ _ _ _ _ (putP w2 (w.heap.size + 1) 0 p)
    have FQ := FR.out.put p
    have FB9 := below_putP FB.out (show w.heap.size ≤ w.heap.size + 1 by omega) 0 p
    obtain ⟨W9, h9⟩ : ∃ W9, putP w2 (w.heap.size + 1) 0 p = W9 := ⟨_, rfl⟩
    rw [h9] at FQ FB9 ⊢
    obtain ⟨y0, y1, y2, y3, y4, y5, y6⟩ := FQ.p7
    try dsimp only at y0 y1 y2 y3 y4 y5 y6
    exact bodyPost_ret (v := .agg #[.int .i64 p.id, .int .i64 p.fr, .int .i64 p.tw, .int .i64 p.sh, .int .i64 p.ca, .int .i64 p.st, .int .i64 p.pl]) (by simp [results, Try.results23, go_sem, y0, y1, y2, y3, y4, y5, y6]) rfl ⟨ret_p (by first | exact HE.out | rfl), FB9⟩
  · have HE : Hid ((⟨p.id, p.fr, p.tw, p.sh, p.ca, 3, fl⟩ : Pe) = outP sh ca fl p) := by
      have q := kw
      unfold isW at q
      simp only [Bool.and_eq_true, beq_iff_eq] at q
      exact (if_pos ⟨q.1.2, q.2, q.1.1⟩).symm
    go_enter Try.func23, Try.ntmps23
    go_upto_region 1 with fail
    obtain ⟨W0, hW0⟩ : ∃ W0, W0 = ((w.alloc (.cells #[.int .i64 p.id, .int .i64 p.fr, .int .i64 p.tw, .int .i64 p.sh, .int .i64 p.ca, .int .i64 p.st, .int .i64 p.pl] 42)).alloc (.cells #[.int .i64 0, .int .i64 0, .int .i64 0, .int .i64 0, .int .i64 0, .int .i64 0, .int .i64 0] 42)) := ⟨_, rfl⟩
    have FP : Hid (PW W0 w.heap.size p) := by rw [hW0]; exact (PW.at_ w p _ _ rfl).alloc _
    have FR : Hid (PW W0 (w.heap.size + 1) zeroP) := by rw [hW0]; exact PW.at_ _ zeroP _ _ (by simp)
    have FB : Hid (Below w.heap.size w W0) := by rw [hW0]; exact ((Below.refl _ _).alloc (Nat.le_refl _) _).alloc (by simp) _
    have C1 : Hid (Cel W0 b1 0 (.int .i64 sh)) := by rw [hW0]; exact (C1.out.alloc _).alloc _
    have C2 : Hid (Cel W0 b2 0 (.int .i64 ca)) := by rw [hW0]; exact (C2.out.alloc _).alloc _
    have C3 : Hid (Cel W0 b3 0 (.int .i64 fl)) := by rw [hW0]; exact (C3.out.alloc _).alloc _
    rw [← hW0]
    clear hW0
    obtain ⟨z0, z1, z2, z3, z4, z5, z6⟩ := FP.out.p7
    have c1 := C1.out.c0
    have c2 := C2.out.c0
    have c3 := C3.out.c0
    go_upto_region 2 with (go_at_call 18; refine (isWith_any p 1 sh ca _).mono ?_; rw [kw]; rintro e w2 ⟨rfl, hb⟩; have FP : Hid (PW w2 w.heap.size p) := FP.out.below hb FP.out.lt; have FR : Hid (PW w2 (w.heap.size + 1) zeroP) := FR.out.below hb FR.out.lt; have C1 : Hid (Cel w2 b1 0 (.int .i64 sh)) := C1.out.below hb C1.out.lt; have C2 : Hid (Cel w2 b2 0 (.int .i64 ca)) := C2.out.below hb C2.out.lt; have C3 : Hid (Cel w2 b3 0 (.int .i64 fl)) := C3.out.below hb C3.out.lt; have FB : Hid (Below w.heap.size w w2) := FB.out.trans (hb.mono FB.out.size); clear hb; obtain ⟨z0, z1, z2, z3, z4, z5, z6⟩ := FP.out.p7; have c1 := C1.out.c0; have c2 := C2.out.c0; have c3 := C3.out.c0)
    clear z0 z1 z2 z3 z4 z5 z6
    have n3 : b3 < w.heap.size := h3
    have FP : Hid (PW w2.drew w.heap.size p) := FP.out.below (Below.refl _ _).drew FP.out.lt
    have FR : Hid (PW w2.drew (w.heap.size + 1) zeroP) := FR.out.below (Below.refl _ _).drew FR.out.lt
    have C3 : Hid (Cel w2.drew b3 0 (.int .i64 fl)) := C3.out.below (Below.refl _ _).drew C3.out.lt
    have FB : Hid (Below w.heap.size w w2.drew) := FB.out.drew
    have mf := C3.out.c0
    refine wp_region_held_drew (S := (fun w'' => w''.cell? ⟨b3, 0, none⟩ = some (.int .i64 fl))) (by kernel_rfl) (by (try dsimp only); first | exact mf | go_keep) (fun hHeld => ?_)
    obtain ⟨v_4, hw1⟩ : ∃ v_4, v_4 = w2.drew := ⟨_, rfl⟩
    have FP : Hid (PW v_4 w.heap.size p) := by rw [hw1]; exact FP.out
    have FR : Hid (PW v_4 (w.heap.size + 1) zeroP) := by rw [hw1]; exact FR.out
    have C3 : Hid (Cel v_4 b3 0 (.int .i64 fl)) := by rw [hw1]; exact C3.out
    have FB : Hid (Below w.heap.size w v_4) := by rw [hw1]; exact FB.out
    rw [← hw1] at hHeld ⊢
    clear hw1
    have mf := C3.out.c0
    refine tkz 0 rfl ?_
    refine tkz 1 rfl ?_
    refine wpAnyH_ready (rs := [2]) (by kernel_rfl) (by simp) ?_
    refine (AllReadyH.cons rfl (fun K hK => ?_) AllReadyH.nil)
    have u0 := (FP.out 5 (by omega)).1
    have u1 := (FP.out 5 (by omega)).2
    try dsimp only [cells7] at u0
    go_simp
    obtain ⟨v_5, hw2⟩ : ∃ v_5, v_5 = v_4.setCell ⟨w.heap.size, 5, none⟩ (.int .i64 3) := ⟨_, rfl⟩
    change K _ (v_4.setCell ⟨w.heap.size, 5, none⟩ (.int .i64 3))
    rw [← hw2]
    clear u0 u1
    have FP : Hid (PW v_5 w.heap.size (⟨p.id, p.fr, p.tw, p.sh, p.ca, 3, p.pl⟩ : Pe)) := by rw [hw2]; exact FP.out.set (k := 5) (by omega) rfl
    have FR : Hid (PW v_5 (w.heap.size + 1) zeroP) := by rw [hw2]; exact FR.out.other (by omega)
    have C3 : Hid (Cel v_5 b3 0 (.int .i64 fl)) := by rw [hw2]; exact C3.out.other (by omega)
    have FB : Hid (Below w.heap.size w v_5) := by rw [hw2]; exact FB.out.setCell (Nat.le_refl _) _
    clear hw2
    have mf := C3.out.c0
    refine hK.out _ _ (by (try dsimp only); first | exact mf | go_keep) (fun hHeld => ?_)
    clear hK K
    try simp only [Act.put, List.getElem_toArray, List.getElem_cons_succ, List.getElem_cons_zero, List.setIfInBounds_toArray, List.set_cons_zero, List.set_cons_succ]
    refine tkz 3 rfl ?_
    refine wpAnyH_ready (rs := [4]) (by kernel_rfl) (by simp) ?_
    refine (AllReadyH.cons rfl (fun K hK => ?_) AllReadyH.nil)
    have u0 := (FP.out 6 (by omega)).1
    have u1 := (FP.out 6 (by omega)).2
    try dsimp only [cells7] at u0
    go_simp
    obtain ⟨v_6, hw2⟩ : ∃ v_6, v_6 = v_5.setCell ⟨w.heap.size, 6, none⟩ (.int .i64 fl) := ⟨_, rfl⟩
    change K _ (v_5.setCell ⟨w.heap.size, 6, none⟩ (.int .i64 fl))
    rw [← hw2]
    clear u0 u1
    have FP : Hid (PW v_6 w.heap.size (⟨p.id, p.fr, p.tw, p.sh, p.ca, 3, fl⟩ : Pe)) := by rw [hw2]; exact FP.out.set (k := 6) (by omega) rfl
    have FR : Hid (PW v_6 (w.heap.size + 1) zeroP) := by rw [hw2]; exact FR.out.other (by omega)
    have C3 : Hid (Cel v_6 b3 0 (.int .i64 fl)) := by rw [hw2]; exact C3.out.other (by omega)
    have FB : Hid (Below w.heap.size w v_6) := by rw [hw2]; exact FB.out.setCell (Nat.le_refl _) _
    clear hw2
    have mf := C3.out.c0
    refine hK.out _ _ (by (try dsimp only); first | exact mf | go_keep) (fun hHeld => ?_)
    clear hK K
    try simp only [Act.put, List.getElem_toArray, List.getElem_cons_succ, List.getElem_cons_zero, List.setIfInBounds_toArray, List.set_cons_zero, List.set_cons_succ]
    refine wpAnyH_done (by kernel_rfl) ?_ _
    go_upto_region 3 with fail
    obtain ⟨W5, hW_⟩ : ∃ W5, W5 = v_6 := ⟨_, rfl⟩
    have FP : Hid (PW W5 w.heap.size (⟨p.id, p.fr, p.tw, p.sh, p.ca, 3, fl⟩ : Pe)) := by rw [hW_]; exact FP.out
    have FR : Hid (PW W5 (w.heap.size + 1) zeroP) := by rw [hW_]; exact FR.out
    have FB : Hid (Below w.heap.size w W5) := by rw [hW_]; exact FB.out
    rw [← hW_]
    clear hW_
    obtain ⟨a0, a1, a2, a3, a4, a5, a6⟩ := FP.out.p7
    obtain ⟨r0, r1, r2, r3, r4, r5, r6⟩ := FR.out.p7
    have rz0 := (FR.out 0 (by omega)).2
    have rz1 := (FR.out 1 (by omega)).2
    have rz2 := (FR.out 2 (by omega)).2
    have rz3 := (FR.out 3 (by omega)).2
    have rz4 := (FR.out 4 (by omega)).2
    have rz5 := (FR.out 5 (by omega)).2
    have rz6 := (FR.out 6 (by omega)).2
    try dsimp only at a0 a1 a2 a3 a4 a5 a6
    go_wp2_with fail
    change bodyPost _ _ _ _ _ (putP W5 (w.heap.size + 1) 0 (⟨p.id, p.fr, p.tw, p.sh, p.ca, 3, fl⟩ : Pe))
    have FQ := FR.out.put (⟨p.id, p.fr, p.tw, p.sh, p.ca, 3, fl⟩ : Pe)
    have FB9 := below_putP FB.out (show w.heap.size ≤ w.heap.size + 1 by omega) 0 (⟨p.id, p.fr, p.tw, p.sh, p.ca, 3, fl⟩ : Pe)
    obtain ⟨W9, h9⟩ : ∃ W9, putP W5 (w.heap.size + 1) 0 (⟨p.id, p.fr, p.tw, p.sh, p.ca, 3, fl⟩ : Pe) = W9 := ⟨_, rfl⟩
    rw [h9] at FQ FB9 ⊢
    obtain ⟨y0, y1, y2, y3, y4, y5, y6⟩ := FQ.p7
    try dsimp only at y0 y1 y2 y3 y4 y5 y6
    exact bodyPost_ret (v := .agg #[.int .i64 (⟨p.id, p.fr, p.tw, p.sh, p.ca, 3, fl⟩ : Pe).id, .int .i64 (⟨p.id, p.fr, p.tw, p.sh, p.ca, 3, fl⟩ : Pe).fr, .int .i64 (⟨p.id, p.fr, p.tw, p.sh, p.ca, 3, fl⟩ : Pe).tw, .int .i64 (⟨p.id, p.fr, p.tw, p.sh, p.ca, 3, fl⟩ : Pe).sh, .int .i64 (⟨p.id, p.fr, p.tw, p.sh, p.ca, 3, fl⟩ : Pe).ca, .int .i64 (⟨p.id, p.fr, p.tw, p.sh, p.ca, 3, fl⟩ : Pe).st, .int .i64 (⟨p.id, p.fr, p.tw, p.sh, p.ca, 3, fl⟩ : Pe).pl]) (by simp [results, Try.results23, go_sem, y0, y1, y2, y3, y4, y5, y6]) rfl ⟨ret_p (by first | exact HE.out | rfl), FB9⟩
theorem gr_other {a c : World} {row : Option Nat} {k o : Nat} {u : Value} (h : a.grownBy c row) (hk : a.heap.size ≤ k) : a.grownBy (c.setCell ⟨k, o, none⟩ u) row :=
  ⟨h.os, h.tape, h.output, by simp [World.setCell]; exact h.size, fun i hi hne => (Below.heap_setCell _ _ _ _ (fun e => by simp at e; omega)).trans (h.block i hi hne)⟩
theorem gr_putP {a c : World} {row : Option Nat} {k : Nat} (h : a.grownBy c row) (hk : a.heap.size ≤ k) (o : Nat) (q : Pe) : a.grownBy (putP c k o q) row :=
  gr_other (gr_other (gr_other (gr_other (gr_other (gr_other (gr_other h hk) hk) hk) hk) hk) hk) hk
/-- A number in a block that may be written. -/
structure FC (w : World) (b : Nat) (x : Int) : Prop where
  c0 : w.cell? ⟨b, 0, none⟩ = some (.int .i64 x)
  f0 : w.frozen? ⟨b, 0, none⟩ = false
theorem FC.lt {w : World} {b : Nat} {x : Int} (a : FC w b x) : b < w.heap.size := World.block_lt_of_cell? w _ a.c0
theorem FC.below {W w : World} {b B : Nat} {x : Int} (a : FC W b x) (hb : Below B W w) (hB : b < B) : FC w b x := ⟨(hb.cell (p := ⟨b, 0, none⟩) hB).trans a.c0, (hb.frozen (p := ⟨b, 0, none⟩) hB).trans a.f0⟩
theorem FC.alloc {W : World} {b : Nat} {x : Int} (a : FC W b x) (o : Obj) : FC (W.alloc o) b x := a.below ((Below.refl _ _).alloc (Nat.le_refl _) o) a.lt
theorem FC.at_ (w : World) (x : Int) (T : TypeId) (b : Nat) (hb : b = w.heap.size) : FC (w.alloc (.cells #[.int .i64 x] T)) b x := by
  subst hb
  constructor <;> simp
theorem FC.other {W : World} {b k o : Nat} {u : Value} {x : Int} (a : FC W b x) (hne : b ≠ k) : FC (W.setCell ⟨k, o, none⟩ u) b x := ⟨(World.cell?_setCell_other _ _ _ _ (fun e => hne (congrArg Addr.block e).symm)).trans a.c0, (World.frozen?_setCell _ _ _ _).trans a.f0⟩
theorem FC.set {W : World} {b : Nat} {x : Int} (a : FC W b x) (y : Int) : FC (W.setCell ⟨b, 0, none⟩ (.int .i64 y)) b y := ⟨World.cell?_setCell_same _ _ _ a.c0, (World.frozen?_setCell _ _ _ _).trans a.f0⟩
theorem FC.putP {W : World} {b k : Nat} {x : Int} (a : FC W b x) (hne : b ≠ k) (o : Nat) (q : Pe) : FC (putP W k o q) b x := ((((((a.other hne).other hne).other hne).other hne).other hne).other hne).other hne
/-- Who boards, and how many places are free then. -/
def brdR (fre sh ca fl : Int) (p : Pe) : Pe × Int := if (0 < fre ∧ isW 0 sh ca p = true) ∧ p.fr = fl then (boardP p, fre - 1) else (p, fre)
set_option maxRecDepth 20000 in
set_option maxHeartbeats 16000000 in
theorem board1_any (p : Pe) (fre sh ca fl : Int) (e1 : -2000000 ≤ fre) (e2 : fre ≤ 20) (fb b1 b2 b3 : Nat) (w : World) (C0 : Hid (FC w fb fre)) (C1 : Hid (Cel w b1 0 (.int .i64 sh))) (C2 : Hid (Cel w b2 0 (.int .i64 ca))) (C3 : Hid (Cel w b3 0 (.int .i64 fl))) :
    Calls Try.prog 17 #[.agg #[.int .i64 p.id, .int .i64 p.fr, .int .i64 p.tw, .int .i64 p.sh, .int .i64 p.ca, .int .i64 p.st, .int .i64 p.pl], .pointer (some ⟨fb, 0, none⟩), .pointer (some ⟨b1, 0, none⟩), .pointer (some ⟨b2, 0, none⟩), .pointer (some ⟨b3, 0, none⟩)] w fun e w' => e = .returned (.agg #[.int .i64 (brdR fre sh ca fl p).1.id, .int .i64 (brdR fre sh ca fl p).1.fr, .int .i64 (brdR fre sh ca fl p).1.tw, .int .i64 (brdR fre sh ca fl p).1.sh, .int .i64 (brdR fre sh ca fl p).1.ca, .int .i64 (brdR fre sh ca fl p).1.st, .int .i64 (brdR fre sh ca fl p).1.pl]) ∧ FC w' fb (brdR fre sh ca fl p).2 ∧ w.grownBy w' (some fb) := by
  have h3 := C3.out.lt
  have h0 := C0.out.lt
  have ew : IntKind.i64.wrap (fre - 1) = fre - 1 := IntWalk.i64_in _ (by omega)
  by_cases kf : 0 < fre
  case neg =>
    have bf : decide (0 < fre) = false := decide_eq_false kf
    have HR : Hid (brdR fre sh ca fl p = (p, fre)) := if_neg (fun q => absurd q.1.1 (by omega))
    rw [HR.out]
    have HE : Hid (p = p) := rfl
    go_enter Try.func17, Try.ntmps17
    go_upto_region 1 with fail
    obtain ⟨W0, hW0⟩ : ∃ W0, W0 = ((w.alloc (.cells #[.int .i64 p.id, .int .i64 p.fr, .int .i64 p.tw, .int .i64 p.sh, .int .i64 p.ca, .int .i64 p.st, .int .i64 p.pl] 42)).alloc (.cells #[.int .i64 0, .int .i64 0, .int .i64 0, .int .i64 0, .int .i64 0, .int .i64 0, .int .i64 0] 42)) := ⟨_, rfl⟩
    have FP : Hid (PW W0 w.heap.size p) := by rw [hW0]; exact (PW.at_ w p _ _ rfl).alloc _
    have FR : Hid (PW W0 (w.heap.size + 1) zeroP) := by rw [hW0]; exact PW.at_ _ zeroP _ _ (by simp)
    have FB : Hid (Below w.heap.size w W0) := by rw [hW0]; exact ((Below.refl _ _).alloc (Nat.le_refl _) _).alloc (by simp) _
    have C1 : Hid (Cel W0 b1 0 (.int .i64 sh)) := by rw [hW0]; exact (C1.out.alloc _).alloc _
    have C2 : Hid (Cel W0 b2 0 (.int .i64 ca)) := by rw [hW0]; exact (C2.out.alloc _).alloc _
    have C3 : Hid (Cel W0 b3 0 (.int .i64 fl)) := by rw [hW0]; exact (C3.out.alloc _).alloc _
    have C0 : Hid (FC W0 fb fre) := by rw [hW0]; exact (C0.out.alloc _).alloc _
    have FG : Hid (w.grownBy W0 (some fb)) := by rw [hW0]; exact grown_trans (grown_new _ _ fb) (grown_new _ _ fb)
    rw [← hW0]
    clear hW0
    obtain ⟨z0, z1, z2, z3, z4, z5, z6⟩ := FP.out.p7
    have c1 := C1.out.c0
    have c2 := C2.out.c0
    have c3 := C3.out.c0
    have c4 := C0.out.c0
    go_upto_region 4 with fail
    clear z0 z1 z2 z3 z4 z5 z6
    obtain ⟨a0, a1, a2, a3, a4, a5, a6⟩ := FP.out.p7
    obtain ⟨r0, r1, r2, r3, r4, r5, r6⟩ := FR.out.p7
    have rz0 := (FR.out 0 (by omega)).2
    have rz1 := (FR.out 1 (by omega)).2
    have rz2 := (FR.out 2 (by omega)).2
    have rz3 := (FR.out 3 (by omega)).2
    have rz4 := (FR.out 4 (by omega)).2
    have rz5 := (FR.out 5 (by omega)).2
    have rz6 := (FR.out 6 (by omega)).2
    try dsimp only at a0 a1 a2 a3 a4 a5 a6
    go_wp2_with fail
    change bodyPost _ _ _ _ _ (putP W0 (w.heap.size + 1) 0 p)
    have FQ := FR.out.put p
    obtain ⟨W9, h9⟩ : ∃ W9, putP W0 (w.heap.size + 1) 0 p = W9 := ⟨_, rfl⟩
    rw [h9] at FQ ⊢
    have FG9 : Hid (w.grownBy W9 (some fb)) := by rw [← h9]; exact gr_putP FG.out (by omega) 0 p
    have C09 : Hid (FC W9 fb fre) := by rw [← h9]; exact C0.out.putP (by omega) 0 _
    obtain ⟨y0, y1, y2, y3, y4, y5, y6⟩ := FQ.p7
    try dsimp only at y0 y1 y2 y3 y4 y5 y6
    exact bodyPost_ret (v := .agg #[.int .i64 p.id, .int .i64 p.fr, .int .i64 p.tw, .int .i64 p.sh, .int .i64 p.ca, .int .i64 p.st, .int .i64 p.pl]) (by simp [results, Try.results17, go_sem, y0, y1, y2, y3, y4, y5, y6]) rfl ⟨ret_p (by first | exact HE.out | rfl), C09.out, FG9.out⟩
  have bf : decide (0 < fre) = true := decide_eq_true kf
  cases kw : isW 0 sh ca p
  · have HR : Hid (brdR fre sh ca fl p = (p, fre)) := if_neg (fun q => by simp [kw] at q)
    rw [HR.out]
    have HE : Hid (p = p) := rfl
    go_enter Try.func17, Try.ntmps17
    go_upto_region 1 with fail
    obtain ⟨W0, hW0⟩ : ∃ W0, W0 = ((w.alloc (.cells #[.int .i64 p.id, .int .i64 p.fr, .int .i64 p.tw, .int .i64 p.sh, .int .i64 p.ca, .int .i64 p.st, .int .i64 p.pl] 42)).alloc (.cells #[.int .i64 0, .int .i64 0, .int .i64 0, .int .i64 0, .int .i64 0, .int .i64 0, .int .i64 0] 42)) := ⟨_, rfl⟩
    have FP : Hid (PW W0 w.heap.size p) := by rw [hW0]; exact (PW.at_ w p _ _ rfl).alloc _
    have FR : Hid (PW W0 (w.heap.size + 1) zeroP) := by rw [hW0]; exact PW.at_ _ zeroP _ _ (by simp)
    have FB : Hid (Below w.heap.size w W0) := by rw [hW0]; exact ((Below.refl _ _).alloc (Nat.le_refl _) _).alloc (by simp) _
    have C1 : Hid (Cel W0 b1 0 (.int .i64 sh)) := by rw [hW0]; exact (C1.out.alloc _).alloc _
    have C2 : Hid (Cel W0 b2 0 (.int .i64 ca)) := by rw [hW0]; exact (C2.out.alloc _).alloc _
    have C3 : Hid (Cel W0 b3 0 (.int .i64 fl)) := by rw [hW0]; exact (C3.out.alloc _).alloc _
    have C0 : Hid (FC W0 fb fre) := by rw [hW0]; exact (C0.out.alloc _).alloc _
    have FG : Hid (w.grownBy W0 (some fb)) := by rw [hW0]; exact grown_trans (grown_new _ _ fb) (grown_new _ _ fb)
    rw [← hW0]
    clear hW0
    obtain ⟨z0, z1, z2, z3, z4, z5, z6⟩ := FP.out.p7
    have c1 := C1.out.c0
    have c2 := C2.out.c0
    have c3 := C3.out.c0
    have c4 := C0.out.c0
    go_upto_region 4 with (go_at_call 18; refine (isWith_any p 0 sh ca _).mono ?_; rw [kw]; rintro e w2 ⟨rfl, hb⟩; have FP : Hid (PW w2 w.heap.size p) := FP.out.below hb FP.out.lt; have FR : Hid (PW w2 (w.heap.size + 1) zeroP) := FR.out.below hb FR.out.lt; have C1 : Hid (Cel w2 b1 0 (.int .i64 sh)) := C1.out.below hb C1.out.lt; have C2 : Hid (Cel w2 b2 0 (.int .i64 ca)) := C2.out.below hb C2.out.lt; have C3 : Hid (Cel w2 b3 0 (.int .i64 fl)) := C3.out.below hb C3.out.lt; have C0 : Hid (FC w2 fb fre) := C0.out.below hb C0.out.lt; have FB : Hid (Below w.heap.size w w2) := FB.out.trans (hb.mono FB.out.size); have FG : Hid (w.grownBy w2 (some fb)) := gr_below FG.out hb; clear hb; obtain ⟨z0, z1, z2, z3, z4, z5, z6⟩ := FP.out.p7; have c1 := C1.out.c0; have c2 := C2.out.c0; have c3 := C3.out.c0; have c4 := C0.out.c0)
    clear z0 z1 z2 z3 z4 z5 z6
    obtain ⟨a0, a1, a2, a3, a4, a5, a6⟩ := FP.out.p7
    obtain ⟨r0, r1, r2, r3, r4, r5, r6⟩ := FR.out.p7
    have rz0 := (FR.out 0 (by omega)).2
    have rz1 := (FR.out 1 (by omega)).2
    have rz2 := (FR.out 2 (by omega)).2
    have rz3 := (FR.out 3 (by omega)).2
    have rz4 := (FR.out 4 (by omega)).2
    have rz5 := (FR.out 5 (by omega)).2
    have rz6 := (FR.out 6 (by omega)).2
    try dsimp only at a0 a1 a2 a3 a4 a5 a6
    go_wp2_with fail
    change bodyPost _ _ _ _ _ (putP w2 (w.heap.size + 1) 0 p)
    have FQ := FR.out.put p
    obtain ⟨W9, h9⟩ : ∃ W9, putP w2 (w.heap.size + 1) 0 p = W9 := ⟨_, rfl⟩
    rw [h9] at FQ ⊢
    have FG9 : Hid (w.grownBy W9 (some fb)) := by rw [← h9]; exact gr_putP FG.out (by omega) 0 p
    have C09 : Hid (FC W9 fb fre) := by rw [← h9]; exact C0.out.putP (by omega) 0 _
    obtain ⟨y0, y1, y2, y3, y4, y5, y6⟩ := FQ.p7
    try dsimp only at y0 y1 y2 y3 y4 y5 y6
    exact bodyPost_ret (v := .agg #[.int .i64 p.id, .int .i64 p.fr, .int .i64 p.tw, .int .i64 p.sh, .int .i64 p.ca, .int .i64 p.st, .int .i64 p.pl]) (by simp [results, Try.results17, go_sem, y0, y1, y2, y3, y4, y5, y6]) rfl ⟨ret_p (by first | exact HE.out | rfl), C09.out, FG9.out⟩
  · cases kt : (p.fr == fl)
    · have HR : Hid (brdR fre sh ca fl p = (p, fre)) := if_neg (fun q => by simp [q.2] at kt)
      rw [HR.out]
      have HE : Hid (p = p) := rfl
      go_enter Try.func17, Try.ntmps17
      go_upto_region 1 with fail
      obtain ⟨W0, hW0⟩ : ∃ W0, W0 = ((w.alloc (.cells #[.int .i64 p.id, .int .i64 p.fr, .int .i64 p.tw, .int .i64 p.sh, .int .i64 p.ca, .int .i64 p.st, .int .i64 p.pl] 42)).alloc (.cells #[.int .i64 0, .int .i64 0, .int .i64 0, .int .i64 0, .int .i64 0, .int .i64 0, .int .i64 0] 42)) := ⟨_, rfl⟩
      have FP : Hid (PW W0 w.heap.size p) := by rw [hW0]; exact (PW.at_ w p _ _ rfl).alloc _
      have FR : Hid (PW W0 (w.heap.size + 1) zeroP) := by rw [hW0]; exact PW.at_ _ zeroP _ _ (by simp)
      have FB : Hid (Below w.heap.size w W0) := by rw [hW0]; exact ((Below.refl _ _).alloc (Nat.le_refl _) _).alloc (by simp) _
      have C1 : Hid (Cel W0 b1 0 (.int .i64 sh)) := by rw [hW0]; exact (C1.out.alloc _).alloc _
      have C2 : Hid (Cel W0 b2 0 (.int .i64 ca)) := by rw [hW0]; exact (C2.out.alloc _).alloc _
      have C3 : Hid (Cel W0 b3 0 (.int .i64 fl)) := by rw [hW0]; exact (C3.out.alloc _).alloc _
      have C0 : Hid (FC W0 fb fre) := by rw [hW0]; exact (C0.out.alloc _).alloc _
      have FG : Hid (w.grownBy W0 (some fb)) := by rw [hW0]; exact grown_trans (grown_new _ _ fb) (grown_new _ _ fb)
      rw [← hW0]
      clear hW0
      obtain ⟨z0, z1, z2, z3, z4, z5, z6⟩ := FP.out.p7
      have c1 := C1.out.c0
      have c2 := C2.out.c0
      have c3 := C3.out.c0
      have c4 := C0.out.c0
      go_upto_region 4 with (go_at_call 18; refine (isWith_any p 0 sh ca _).mono ?_; rw [kw]; rintro e w2 ⟨rfl, hb⟩; have FP : Hid (PW w2 w.heap.size p) := FP.out.below hb FP.out.lt; have FR : Hid (PW w2 (w.heap.size + 1) zeroP) := FR.out.below hb FR.out.lt; have C1 : Hid (Cel w2 b1 0 (.int .i64 sh)) := C1.out.below hb C1.out.lt; have C2 : Hid (Cel w2 b2 0 (.int .i64 ca)) := C2.out.below hb C2.out.lt; have C3 : Hid (Cel w2 b3 0 (.int .i64 fl)) := C3.out.below hb C3.out.lt; have C0 : Hid (FC w2 fb fre) := C0.out.below hb C0.out.lt; have FB : Hid (Below w.heap.size w w2) := FB.out.trans (hb.mono FB.out.size); have FG : Hid (w.grownBy w2 (some fb)) := gr_below FG.out hb; clear hb; obtain ⟨z0, z1, z2, z3, z4, z5, z6⟩ := FP.out.p7; have c1 := C1.out.c0; have c2 := C2.out.c0; have c3 := C3.out.c0; have c4 := C0.out.c0)
      clear z0 z1 z2 z3 z4 z5 z6
      obtain ⟨a0, a1, a2, a3, a4, a5, a6⟩ := FP.out.p7
      obtain ⟨r0, r1, r2, r3, r4, r5, r6⟩ := FR.out.p7
      have rz0 := (FR.out 0 (by omega)).2
      have rz1 := (FR.out 1 (by omega)).2
      have rz2 := (FR.out 2 (by omega)).2
      have rz3 := (FR.out 3 (by omega)).2
      have rz4 := (FR.out 4 (by omega)).2
      have rz5 := (FR.out 5 (by omega)).2
      have rz6 := (FR.out 6 (by omega)).2
      try dsimp only at a0 a1 a2 a3 a4 a5 a6
      go_wp2_with fail
      change bodyPost _ _ _ _ _ (putP w2 (w.heap.size + 1) 0 p)
      have FQ := FR.out.put p
      obtain ⟨W9, h9⟩ : ∃ W9, putP w2 (w.heap.size + 1) 0 p = W9 := ⟨_, rfl⟩
      rw [h9] at FQ ⊢
      have FG9 : Hid (w.grownBy W9 (some fb)) := by rw [← h9]; exact gr_putP FG.out (by omega) 0 p
      have C09 : Hid (FC W9 fb fre) := by rw [← h9]; exact C0.out.putP (by omega) 0 _
      obtain ⟨y0, y1, y2, y3, y4, y5, y6⟩ := FQ.p7
      try dsimp only at y0 y1 y2 y3 y4 y5 y6
      exact bodyPost_ret (v := .agg #[.int .i64 p.id, .int .i64 p.fr, .int .i64 p.tw, .int .i64 p.sh, .int .i64 p.ca, .int .i64 p.st, .int .i64 p.pl]) (by simp [results, Try.results17, go_sem, y0, y1, y2, y3, y4, y5, y6]) rfl ⟨ret_p (by first | exact HE.out | rfl), C09.out, FG9.out⟩
    · have HR : Hid (brdR fre sh ca fl p = (boardP p, fre - 1)) := if_pos ⟨⟨by omega, kw⟩, by simpa using kt⟩
      rw [HR.out]
      have HE : Hid ((⟨p.id, p.fr, p.tw, p.sh, p.ca, 1, p.pl⟩ : Pe) = boardP p) := rfl
      go_enter Try.func17, Try.ntmps17
      go_upto_region 1 with fail
      obtain ⟨W0, hW0⟩ : ∃ W0, W0 = ((w.alloc (.cells #[.int .i64 p.id, .int .i64 p.fr, .int .i64 p.tw, .int .i64 p.sh, .int .i64 p.ca, .int .i64 p.st, .int .i64 p.pl] 42)).alloc (.cells #[.int .i64 0, .int .i64 0, .int .i64 0, .int .i64 0, .int .i64 0, .int .i64 0, .int .i64 0] 42)) := ⟨_, rfl⟩
      have FP : Hid (PW W0 w.heap.size p) := by rw [hW0]; exact (PW.at_ w p _ _ rfl).alloc _
      have FR : Hid (PW W0 (w.heap.size + 1) zeroP) := by rw [hW0]; exact PW.at_ _ zeroP _ _ (by simp)
      have FB : Hid (Below w.heap.size w W0) := by rw [hW0]; exact ((Below.refl _ _).alloc (Nat.le_refl _) _).alloc (by simp) _
      have C1 : Hid (Cel W0 b1 0 (.int .i64 sh)) := by rw [hW0]; exact (C1.out.alloc _).alloc _
      have C2 : Hid (Cel W0 b2 0 (.int .i64 ca)) := by rw [hW0]; exact (C2.out.alloc _).alloc _
      have C3 : Hid (Cel W0 b3 0 (.int .i64 fl)) := by rw [hW0]; exact (C3.out.alloc _).alloc _
      have C0 : Hid (FC W0 fb fre) := by rw [hW0]; exact (C0.out.alloc _).alloc _
      have FG : Hid (w.grownBy W0 (some fb)) := by rw [hW0]; exact grown_trans (grown_new _ _ fb) (grown_new _ _ fb)
      rw [← hW0]
      clear hW0
      obtain ⟨z0, z1, z2, z3, z4, z5, z6⟩ := FP.out.p7
      have c1 := C1.out.c0
      have c2 := C2.out.c0
      have c3 := C3.out.c0
      have c4 := C0.out.c0
      go_upto_region 2 with (go_at_call 18; refine (isWith_any p 0 sh ca _).mono ?_; rw [kw]; rintro e w2 ⟨rfl, hb⟩; have FP : Hid (PW w2 w.heap.size p) := FP.out.below hb FP.out.lt; have FR : Hid (PW w2 (w.heap.size + 1) zeroP) := FR.out.below hb FR.out.lt; have C1 : Hid (Cel w2 b1 0 (.int .i64 sh)) := C1.out.below hb C1.out.lt; have C2 : Hid (Cel w2 b2 0 (.int .i64 ca)) := C2.out.below hb C2.out.lt; have C3 : Hid (Cel w2 b3 0 (.int .i64 fl)) := C3.out.below hb C3.out.lt; have C0 : Hid (FC w2 fb fre) := C0.out.below hb C0.out.lt; have FB : Hid (Below w.heap.size w w2) := FB.out.trans (hb.mono FB.out.size); have FG : Hid (w.grownBy w2 (some fb)) := gr_below FG.out hb; clear hb; obtain ⟨z0, z1, z2, z3, z4, z5, z6⟩ := FP.out.p7; have c1 := C1.out.c0; have c2 := C2.out.c0; have c3 := C3.out.c0; have c4 := C0.out.c0)
      have fz5 := (FP.out 5 (by omega)).2
      go_upto_region 3 with fail
      obtain ⟨W3, hW3⟩ : ∃ W3, W3 = w2.setCell ⟨w.heap.size, 5, none⟩ (.int .i64 1) := ⟨_, rfl⟩
      have FP : Hid (PW W3 w.heap.size (⟨p.id, p.fr, p.tw, p.sh, p.ca, 1, p.pl⟩ : Pe)) := by rw [hW3]; exact FP.out.set (k := 5) (by omega) rfl
      have FR : Hid (PW W3 (w.heap.size + 1) zeroP) := by rw [hW3]; exact FR.out.other (by omega)
      have C0 : Hid (FC W3 fb fre) := by rw [hW3]; exact C0.out.other (by omega)
      have FG : Hid (w.grownBy W3 (some fb)) := by rw [hW3]; exact gr_other FG.out (Nat.le_refl _)
      rw [← hW3]
      clear hW3
      clear z0 z1 z2 z3 z4 z5 z6 fz5 c1 c2 c3 c4
      obtain ⟨c4, c5⟩ := C0.out
      go_upto_region 4 with fail
      obtain ⟨W4, hW4⟩ : ∃ W4, W4 = W3.setCell ⟨fb, 0, none⟩ (.int .i64 (fre - 1)) := ⟨_, rfl⟩
      have FP : Hid (PW W4 w.heap.size (⟨p.id, p.fr, p.tw, p.sh, p.ca, 1, p.pl⟩ : Pe)) := by rw [hW4]; exact FP.out.other (by omega)
      have FR : Hid (PW W4 (w.heap.size + 1) zeroP) := by rw [hW4]; exact FR.out.other (by omega)
      have C0 : Hid (FC W4 fb (fre - 1)) := by rw [hW4]; exact C0.out.set _
      have FG : Hid (w.grownBy W4 (some fb)) := by rw [hW4]; exact grown_trans FG.out (grown_set1 _ fb _ _)
      rw [← hW4]
      clear hW4
      clear c4 c5
      obtain ⟨a0, a1, a2, a3, a4, a5, a6⟩ := FP.out.p7
      obtain ⟨r0, r1, r2, r3, r4, r5, r6⟩ := FR.out.p7
      have rz0 := (FR.out 0 (by omega)).2
      have rz1 := (FR.out 1 (by omega)).2
      have rz2 := (FR.out 2 (by omega)).2
      have rz3 := (FR.out 3 (by omega)).2
      have rz4 := (FR.out 4 (by omega)).2
      have rz5 := (FR.out 5 (by omega)).2
      have rz6 := (FR.out 6 (by omega)).2
      try dsimp only at a0 a1 a2 a3 a4 a5 a6
      go_wp2_with fail
      change bodyPost _ _ _ _ _ (putP W4 (w.heap.size + 1) 0 (⟨p.id, p.fr, p.tw, p.sh, p.ca, 1, p.pl⟩ : Pe))
      have FQ := FR.out.put (⟨p.id, p.fr, p.tw, p.sh, p.ca, 1, p.pl⟩ : Pe)
      obtain ⟨W9, h9⟩ : ∃ W9, putP W4 (w.heap.size + 1) 0 (⟨p.id, p.fr, p.tw, p.sh, p.ca, 1, p.pl⟩ : Pe) = W9 := ⟨_, rfl⟩
      rw [h9] at FQ ⊢
      have FG9 : Hid (w.grownBy W9 (some fb)) := by rw [← h9]; exact gr_putP FG.out (by omega) 0 (⟨p.id, p.fr, p.tw, p.sh, p.ca, 1, p.pl⟩ : Pe)
      have C09 : Hid (FC W9 fb (fre - 1)) := by rw [← h9]; exact C0.out.putP (by omega) 0 _
      obtain ⟨y0, y1, y2, y3, y4, y5, y6⟩ := FQ.p7
      try dsimp only at y0 y1 y2 y3 y4 y5 y6
      exact bodyPost_ret (v := .agg #[.int .i64 (⟨p.id, p.fr, p.tw, p.sh, p.ca, 1, p.pl⟩ : Pe).id, .int .i64 (⟨p.id, p.fr, p.tw, p.sh, p.ca, 1, p.pl⟩ : Pe).fr, .int .i64 (⟨p.id, p.fr, p.tw, p.sh, p.ca, 1, p.pl⟩ : Pe).tw, .int .i64 (⟨p.id, p.fr, p.tw, p.sh, p.ca, 1, p.pl⟩ : Pe).sh, .int .i64 (⟨p.id, p.fr, p.tw, p.sh, p.ca, 1, p.pl⟩ : Pe).ca, .int .i64 (⟨p.id, p.fr, p.tw, p.sh, p.ca, 1, p.pl⟩ : Pe).st, .int .i64 (⟨p.id, p.fr, p.tw, p.sh, p.ca, 1, p.pl⟩ : Pe).pl]) (by simp [results, Try.results17, go_sem, y0, y1, y2, y3, y4, y5, y6]) rfl ⟨ret_p (by first | exact HE.out | rfl), C09.out, FG9.out⟩
end Go.Proofs.Ytoekhkolakielaa
