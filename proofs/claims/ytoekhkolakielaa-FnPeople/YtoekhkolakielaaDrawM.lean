/-
  A ledger that is drawn: what each step leaves.
-/
import Derived.Test.YtoekhkolakielaaDrawT
import Derived.Test.YtoekhkolakielaaPersO
import Derived.Test.YtoekhkolakielaaPersJ
import Derived.BigGuardPart
namespace Go.Proofs.Ytoekhkolakielaa
open Go.RowKit Pl
set_option linter.unusedSimpArgs false
set_option linter.unusedVariables false

theorem LW.keeps {W w : World} {b sb : Nat} {nx : Int} {v : Value} (a : LW W b nx v) (hk : Keeps sb W w) (hne : b ≠ sb) : LW w b nx v :=
  a.of (fun _ => World.cell?_of_block (w := W) (hk.block b a.lt hne)) (fun _ => World.frozen?_of_block (w := W) (hk.block b a.lt hne))
theorem P7.keeps {W w : World} {b o sb : Nat} {p : Pe} (a : P7 W b o p) (hk : Keeps sb W w) (hne : b ≠ sb) : P7 w b o p := a.of (fun _ => World.cell?_of_block (w := W) (hk.block b a.lt hne))
theorem Own.keeps {W w : World} {B sb : Nat} {v : Value} {l : List Pe} (h : Own W B v l) (hk : Keeps sb W w) (hne : sb < B) : Own w B v l := by
  refine ⟨h.1, ?_⟩
  rcases h.2 with hn | ⟨g, cap, cur, rfl, hB, hg, rest⟩
  · exact Or.inl hn
  · exact Or.inr ⟨g, cap, cur, rfl, hB, (hk.block g (Array.getElem?_eq_some_iff.1 hg).1 (by omega)).trans hg, rest⟩
theorem SrcT.belowL {W w : World} {sb B C : Nat} {a : Option Addr} {len cap T : Nat} (h : SrcT W sb B a len cap T) (hb : Below C W w) (hC : sb < C) : SrcT w sb B a len cap T := by
  obtain ⟨t, ht, h⟩ := h
  have hB := h.hB
  exact ⟨t, ht, Nat.lt_of_lt_of_le h.lt hb.size, h.hB, (hb.cell (p := ⟨sb, 0, none⟩) hC).trans h.c0, (hb.cell (p := ⟨sb, 1, none⟩) hC).trans h.c1, (hb.frozen (p := ⟨sb, 1, none⟩) hC).trans h.fz, h.hc.keep fun b off hlt _ => hb.cell (p := ⟨b, off, none⟩) (show b < C by omega)⟩
theorem Keeps.belowL {sb C : Nat} {a w w' : World} (h : Keeps sb a w) (hb : Below C w w') (hC : a.heap.size ≤ C) : Keeps sb a w' :=
  ⟨hb.os.trans h.os, hb.tape.trans h.tape, hb.output.trans h.output, Nat.le_trans h.size hb.size, fun i hi hn => (hb.block i (by omega)).trans (h.block i hi hn)⟩
/-- A ledger under way lies in the block lb; its people behind it. -/
structure Lg1 (w : World) (lb : Nat) (nx : Int) (v : Value) (l : List Pe) : Prop where
  f : LW w lb nx v
  o : Own w (lb + 1) v l
  n : l.length ≤ 60
  a : -1000000000000000 ≤ nx
  b : nx ≤ 1000000000000000
def LG (w : World) (lb : Nat) : Prop := ∃ nx v l, Lg1 w lb nx v l
theorem LG.lt {w : World} {lb : Nat} (h : LG w lb) : lb < w.heap.size := by obtain ⟨nx, v, l, h⟩ := h; exact h.f.lt
theorem LG.keeps {W w : World} {lb sb : Nat} (h : LG W lb) (hk : Keeps sb W w) (hne : sb < lb) : LG w lb := by
  obtain ⟨nx, v, l, h⟩ := h
  exact ⟨nx, v, l, h.f.keeps hk (by omega), h.o.keeps hk (by omega), h.n, h.a, h.b⟩
theorem LG.alloc {W : World} {lb : Nat} (h : LG W lb) (ob : Obj) : LG (W.alloc ob) lb := by
  obtain ⟨nx, v, l, h⟩ := h
  exact ⟨nx, v, l, h.f.alloc _, h.o.alloc _, h.n, h.a, h.b⟩
theorem LG.below {W w : World} {lb : Nat} (h : LG W lb) (hb : Below W.heap.size W w) : LG w lb := by
  obtain ⟨nx, v, l, h⟩ := h
  exact ⟨nx, v, l, h.f.below hb h.f.lt, h.o.below hb (fun k hk => (h.o.lt k hk).2), h.n, h.a, h.b⟩
theorem LG.drew {W : World} {lb : Nat} (h : LG W lb) : LG W.drew lb := h.below (Below.refl _ _).drew
theorem grown_below {W w : World} {g C : Nat} (hg : W.grownBy w (some g)) (hC : C ≤ g) (hs : C ≤ W.heap.size) : Below C W w := (Below.refl C W).grown hg hs (fun j hj => by have e := Option.some.inj hj; omega)
theorem addC_nx {h : Hs} {x : Lg} {f t sh ca : Int} (hk : Hs.addC h x f t sh ca = 0) : x.nx ≠ 1000000000000000 := by
  unfold Hs.addC at hk
  intro e
  split at hk
  case isFalse q => exact absurd hk q
  split at hk
  case isFalse => omega
  split at hk
  case isTrue => omega
  split at hk
  case isTrue => omega
  case isFalse q => exact q (Or.inl e)
theorem l7Add_lg (h : Hs) (lb : Nat) (f t sh ca : Int) (w : World) (hG : LG w lb) :
    Calls Try.prog 59 #[.agg #[.int .i64 h.fl, .int .i64 h.gp, .int .i64 h.ln, .int .i64 h.rf, .int .i64 h.sp, .int .i64 h.pu, .int .i64 h.br, .int .i64 h.dr, .int .i64 h.lv, .int .i64 h.dO, .int .i64 h.ld, .int .i64 h.qu], .pointer (some ⟨lb, 0, none⟩), .int .i64 f, .int .i64 t, .int .i64 sh, .int .i64 ca] w fun e w' => (∃ k : Int, e = .returned (.int .i64 k)) ∧ LG w' lb ∧ Below lb w w' := by
  obtain ⟨nx, v, l, hG⟩ := hG
  have lt := hG.f.lt
  have fin : ∀ e w', addPost h lb (lb + 1) nx l f t sh ca w e w' → (∃ k : Int, e = .returned (.int .i64 k)) ∧ LG w' lb ∧ Below lb w w' := by
    rintro e w' ⟨rfl, v', hL, hO, hne, hg⟩
    refine ⟨⟨_, rfl⟩, ⟨_, v', _, hL, hO, ?_, ?_, ?_⟩, grown_below hg (Nat.le_refl _) (by omega)⟩
    · split
      case isFalse => exact hG.n
      case isTrue hk =>
        have hn := hG.n
        have hf : l.length = 60 → fi l < 60 := by
          intro e
          unfold Hs.addC at hk
          split at hk
          case isFalse q => exact absurd hk q
          split at hk
          case isFalse => omega
          split at hk
          case isTrue => omega
          split at hk
          case isTrue => omega
          case isFalse q =>
            have q2 : ¬ (nx = 1000000000000000 ∨ (60 ≤ l.length ∧ l.length ≤ fi l)) := q
            omega
        rw [List.length_append, freeL_len l hn hf]
        simp
        split <;> omega
    · split
      · have := hG.a; omega
      · exact hG.a
    · split
      case isTrue hk =>
        have := addC_nx hk
        have := hG.b
        dsimp only at *
        omega
      case isFalse => exact hG.b
  rcases hG.o.cases with ⟨rfl, rfl⟩ | ⟨g, cap, rfl, hBg, -⟩
  · exact (l7Add_nil h lb (lb + 1) nx f t sh ca hG.a hG.b w (by omega) hG.f).mono fin
  · exact (l7Add_row h lb (lb + 1) g cap l nx f t sh ca hG.a hG.b hG.n (by omega) w (by omega) hG.f hG.o.ow).mono fin
theorem boardS_len2 (ld sh ca fl : Int) (l : List Pe) (k : Nat) : (boardS ld sh ca fl l k).length = l.length := by
  induction k with
  | zero => rfl
  | succ k ih =>
    unfold boardS
    split
    · split
      · rw [List.length_set, ih]
      · exact ih
    · exact ih
set_option maxRecDepth 20000 in
set_option maxHeartbeats 8000000 in
theorem l7Board_nil (h : Hs) (lb : Nat) (sh ca fl : Int) (nx : Int) (w : World) (hL : LAt w lb nx none 0 0) :
    Calls Try.prog 21 #[.agg #[.int .i64 h.fl, .int .i64 h.gp, .int .i64 h.ln, .int .i64 h.rf, .int .i64 h.sp, .int .i64 h.pu, .int .i64 h.br, .int .i64 h.dr, .int .i64 h.lv, .int .i64 h.dO, .int .i64 h.ld, .int .i64 h.qu], .pointer (some ⟨lb, 0, none⟩), .int .i64 sh, .int .i64 ca, .int .i64 fl] w fun e w' => e = .returned (.tuple #[]) ∧ Below w.heap.size w w' := by
  have HL : Hid (LAt w lb nx none 0 0) := hL
  have FB : Hid (Below w.heap.size w (w.alloc (.cells #[.int .i64 h.fl, .int .i64 h.gp, .int .i64 h.ln, .int .i64 h.rf, .int .i64 h.sp, .int .i64 h.pu, .int .i64 h.br, .int .i64 h.dr, .int .i64 h.lv, .int .i64 h.dO, .int .i64 h.ld, .int .i64 h.qu] 25))) := (Below.refl _ _).alloc (Nat.le_refl _) _
  clear hL
  go_enter Try.func21, Try.ntmps21
  go_wp2_with fail
  go_loopw [10] (fun ii wr => ii = .int .i64 0 ∧ Below w.heap.size w wr) (fun _ _ => 0)
  case atStart => exact ⟨rfl, FB.out⟩
  case round =>
    obtain ⟨rfl, hb⟩ := hrel
    obtain ⟨g0, g1⟩ := HL.out.below hb HL.out.lt
    have FB : Hid (Below w.heap.size w wr) := hb
    clear hb
    go_wp2_with fail
    go_end0
    exact ⟨rfl, FB.out⟩
theorem l7Board_lg (h : Hs) (lb : Nat) (sh ca fl : Int) (w : World) (hG : LG w lb) :
    Calls Try.prog 21 #[.agg #[.int .i64 h.fl, .int .i64 h.gp, .int .i64 h.ln, .int .i64 h.rf, .int .i64 h.sp, .int .i64 h.pu, .int .i64 h.br, .int .i64 h.dr, .int .i64 h.lv, .int .i64 h.dO, .int .i64 h.ld, .int .i64 h.qu], .pointer (some ⟨lb, 0, none⟩), .int .i64 sh, .int .i64 ca, .int .i64 fl] w fun e w' => e = .returned (.tuple #[]) ∧ LG w' lb ∧ Below lb w w' := by
  obtain ⟨nx, v, l, hG⟩ := hG
  have lt := hG.f.lt
  rcases hG.o.cases with ⟨rfl, rfl⟩ | ⟨g, cap, rfl, hBg, -⟩
  · refine (l7Board_nil h lb sh ca fl nx w hG.f.lat).mono ?_
    rintro e w' ⟨rfl, hb⟩
    exact ⟨rfl, ⟨nx, _, [], hG.f.below hb lt, own_nil _ _, hG.n, hG.a, hG.b⟩, hb.mono (by omega)⟩
  · refine (l7Board_any h lb nx (lb + 1) g l.length cap l sh ca fl (by have := hG.n; omega) (by omega) w hG.f.lat hG.o.ow).mono ?_
    rintro e w' ⟨rfl, ho, hg⟩
    have hn := hG.n
    refine ⟨rfl, ⟨nx, _, _, hG.f.grown hg (fun e => by have e2 := Option.some.inj e; omega), ho.own, ?_, hG.a, hG.b⟩, grown_below hg (by omega) (by omega)⟩
    have e : (boardS h.ld sh ca fl l l.length).length = l.length := boardS_len2 _ _ _ _ _ _
    rw [e]
    exact hG.n
set_option maxRecDepth 20000 in
set_option maxHeartbeats 8000000 in
theorem l7Alight_nil (lb : Nat) (sh ca fl : Int) (nx : Int) (w : World) (hL : LAt w lb nx none 0 0) :
    Calls Try.prog 60 #[.pointer (some ⟨lb, 0, none⟩), .int .i64 sh, .int .i64 ca, .int .i64 fl] w fun e w' => e = .returned (.tuple #[]) ∧ Below w.heap.size w w' := by
  have HL : Hid (LAt w lb nx none 0 0) := hL
  have FB : Hid (Below w.heap.size w w) := Below.refl _ _
  clear hL
  go_enter Try.func60, Try.ntmps60
  go_wp2_with fail
  go_loopw [8] (fun ii wr => ii = .int .i64 0 ∧ Below w.heap.size w wr) (fun _ _ => 0)
  case atStart => exact ⟨rfl, FB.out⟩
  case round =>
    obtain ⟨rfl, hb⟩ := hrel
    obtain ⟨g0, g1⟩ := HL.out.below hb HL.out.lt
    have FB : Hid (Below w.heap.size w wr) := hb
    clear hb
    go_wp2_with fail
    go_end0
    exact ⟨rfl, FB.out⟩
theorem l7Alight_lg (lb : Nat) (sh ca fl : Int) (w : World) (hG : LG w lb) :
    Calls Try.prog 60 #[.pointer (some ⟨lb, 0, none⟩), .int .i64 sh, .int .i64 ca, .int .i64 fl] w fun e w' => e = .returned (.tuple #[]) ∧ LG w' lb ∧ Below lb w w' := by
  obtain ⟨nx, v, l, hG⟩ := hG
  have lt := hG.f.lt
  rcases hG.o.cases with ⟨rfl, rfl⟩ | ⟨g, cap, rfl, hBg, -⟩
  · refine (l7Alight_nil lb sh ca fl nx w hG.f.lat).mono ?_
    rintro e w' ⟨rfl, hb⟩
    exact ⟨rfl, ⟨nx, _, [], hG.f.below hb lt, own_nil _ _, hG.n, hG.a, hG.b⟩, hb.mono (by omega)⟩
  · refine (l7Alight_any lb nx (lb + 1) g l.length cap l sh ca fl (by have := hG.n; omega) (by omega) w hG.f.lat hG.o.ow).mono ?_
    rintro e w' ⟨rfl, ho, hg⟩
    have hn := hG.n
    refine ⟨rfl, ⟨nx, _, _, hG.f.grown hg (fun e => by have e2 := Option.some.inj e; omega), ho.own, ?_, hG.a, hG.b⟩, grown_below hg (by omega) (by omega)⟩
    have e : (l.map (alightP sh ca fl)).length = l.length := List.length_map ..
    rw [e]
    exact hG.n
set_option maxRecDepth 20000 in
set_option maxHeartbeats 8000000 in
theorem l7Out_nil (lb : Nat) (sh ca fl : Int) (nx : Int) (w : World) (hL : LAt w lb nx none 0 0) :
    Calls Try.prog 61 #[.pointer (some ⟨lb, 0, none⟩), .int .i64 sh, .int .i64 ca, .int .i64 fl] w fun e w' => e = .returned (.tuple #[]) ∧ Below w.heap.size w w' := by
  have HL : Hid (LAt w lb nx none 0 0) := hL
  have FB : Hid (Below w.heap.size w w) := Below.refl _ _
  clear hL
  go_enter Try.func61, Try.ntmps61
  go_wp2_with fail
  go_loopw [8] (fun ii wr => ii = .int .i64 0 ∧ Below w.heap.size w wr) (fun _ _ => 0)
  case atStart => exact ⟨rfl, FB.out⟩
  case round =>
    obtain ⟨rfl, hb⟩ := hrel
    obtain ⟨g0, g1⟩ := HL.out.below hb HL.out.lt
    have FB : Hid (Below w.heap.size w wr) := hb
    clear hb
    go_wp2_with fail
    go_end0
    exact ⟨rfl, FB.out⟩
theorem l7Out_lg (lb : Nat) (sh ca fl : Int) (w : World) (hG : LG w lb) :
    Calls Try.prog 61 #[.pointer (some ⟨lb, 0, none⟩), .int .i64 sh, .int .i64 ca, .int .i64 fl] w fun e w' => e = .returned (.tuple #[]) ∧ LG w' lb ∧ Below lb w w' := by
  obtain ⟨nx, v, l, hG⟩ := hG
  have lt := hG.f.lt
  rcases hG.o.cases with ⟨rfl, rfl⟩ | ⟨g, cap, rfl, hBg, -⟩
  · refine (l7Out_nil lb sh ca fl nx w hG.f.lat).mono ?_
    rintro e w' ⟨rfl, hb⟩
    exact ⟨rfl, ⟨nx, _, [], hG.f.below hb lt, own_nil _ _, hG.n, hG.a, hG.b⟩, hb.mono (by omega)⟩
  · refine (l7Out_any lb nx (lb + 1) g l.length cap l sh ca fl (by have := hG.n; omega) (by omega) w hG.f.lat hG.o.ow).mono ?_
    rintro e w' ⟨rfl, ho, hg⟩
    have hn := hG.n
    refine ⟨rfl, ⟨nx, _, _, hG.f.grown hg (fun e => by have e2 := Option.some.inj e; omega), ho.own, ?_, hG.a, hG.b⟩, grown_below hg (by omega) (by omega)⟩
    have e : (l.map (outP sh ca fl)).length = l.length := List.length_map ..
    rw [e]
    exact hG.n
end Go.Proofs.Ytoekhkolakielaa
