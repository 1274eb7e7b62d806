/-
  Rows of numbers: marked, held; a result of numbers in a block.
-/
import Derived.Test.YtnpnlckdggakmaaInts
import Derived.Test.YtnpnlckdggakmaaPersD
namespace Go.Proofs.Ytnpnlckdggakmaa
open Go.RowKit Pl
set_option linter.unusedSimpArgs false
set_option linter.unusedVariables false

theorem grown_setI (W : World) (g o : Nat) (u : Value) : W.grownBy (W.setCell ⟨g, o, none⟩ u) (some g) := ⟨rfl, rfl, rfl, by simp [World.setCell], fun i _ hne => Below.heap_setCell _ _ _ _ (fun e => hne (by rw [e]))⟩
def markI (k : Int) (n : Nat) : List Int := (List.range n).map (fun (i : Nat) => k + (i : Int))
theorem markI_len (k : Int) (n : Nat) : (markI k n).length = n := by simp [markI]
theorem markI_get {k : Int} {n i : Nat} (h : i < n) : (markI k n)[i]? = some (k + (i : Int)) := by simp [markI, h]
theorem markI_step {k : Int} {l : List Int} {i : Nat} (h : i < l.length) : (markI k i ++ l.drop i).set i (k + (i : Int)) = markI k (i + 1) ++ l.drop (i + 1) := by
  have e : markI k (i + 1) = markI k i ++ [k + (i : Int)] := by simp [markI, List.range_succ]
  rw [List.set_append_right _ _ (by rw [markI_len]; omega), markI_len, Nat.sub_self, List.drop_eq_getElem_cons h, List.set_cons_zero, e, List.append_assoc]
  rfl
set_option maxRecDepth 20000 in
set_option maxHeartbeats 16000000 in
theorem markInt64S_any (B : Nat) (v : Value) (l : List Int) (k : Int) (k1 : 0 ≤ k) (k2 : k ≤ 100) (hl : l.length ≤ 1048576) (w : World) (h : OwI w B v l) :
    Calls Try.prog 29 #[v, .int .i64 k] w fun e w' => e = .returned (.int .i64 (k + l.length)) ∧ OwI w' B v (markI k l.length) ∧ w.grownBy w' v.ownBlock := by
  rcases h.cases with ⟨rfl, rfl⟩ | ⟨g, cap, rfl⟩
  · have HO : Hid (OwI w B (.slice none 0 0) []) := h
    clear h
    go_enter Try.func29, Try.ntmps29
    go_wp2_with fail
    go_loopw [1, 5] (fun kk ii wr => ii = .int .i64 0 ∧ kk = .int .i64 k ∧ wr = w) (fun _ _ _ => 0)
    case atStart => exact ⟨rfl, rfl, rfl⟩
    case round =>
      obtain ⟨rfl, rfl, rfl⟩ := hrel
      go_wp2_with fail
      go_ret
      exact ⟨ret_int (by simp), HO.out, World.grownBy.refl _ _⟩
  · have HO : Hid (OwI w B (.slice (some ⟨g, 0, none⟩) l.length cap) l) := h
    clear h
    go_enter Try.func29, Try.ntmps29
    go_wp2_with fail
    go_loopw [1, 5] (fun kk ii wr => ∃ i : Nat, ii = .int .i64 i ∧ i ≤ l.length ∧ kk = .int .i64 (k + (i : Int)) ∧ OwI wr B (.slice (some ⟨g, 0, none⟩) l.length cap) (markI k i ++ l.drop i) ∧ w.grownBy wr (some g)) (fun _ ii _ => l.length - (intOf ii).toNat)
    case atStart => exact ⟨0, rfl, by omega, by simp, by simpa [markI] using HO.out, World.grownBy.refl _ _⟩
    case round =>
      obtain ⟨i, rfl, hi, rfl, ho, hg⟩ := hrel
      have FO : Hid (OwI wr B (.slice (some ⟨g, 0, none⟩) l.length cap) (markI k i ++ l.drop i)) := ho
      have FG : Hid (w.grownBy wr (some g)) := hg
      clear ho hg HO
      by_cases hlt : i < l.length
      · have hL : (markI k i ++ l.drop i).length = l.length := by rw [List.length_append, markI_len, List.length_drop]; omega
        obtain ⟨y, hy⟩ : ∃ y, (markI k i ++ l.drop i)[i]? = some y := ⟨_, List.getElem?_eq_getElem (by rw [hL]; exact hlt)⟩
        have c0 := FO.out.cell hy
        have f0 := FO.out.fz i
        have ew : IntKind.i64.wrap (k + (i : Int) + 1) = k + (i : Int) + 1 := IntWalk.i64_in _ (by omega)
        have ew0 : IntKind.i64.wrap (k + (i : Int)) = k + (i : Int) := IntWalk.i64_in _ (by omega)
        have HS : Hid (OwI (wr.setCell ⟨g, i, none⟩ (.int .i64 (k + (i : Int)))) B (.slice (some ⟨g, 0, none⟩) l.length cap) (markI k (i + 1) ++ l.drop (i + 1))) := by
          have q := OwI.set (l := markI k i ++ l.drop i) (by rw [hL]; exact FO.out) i (k + (i : Int))
          rw [markI_step hlt, hL] at q
          exact q
        clear hy hL
        go_wp2_with fail
        go_roundw
        case rel => exact ⟨i + 1, by simp, by omega, by congr 1; omega, HS.out, grown_trans FG.out (grown_setI _ g _ _)⟩
        case measure => simp [intOf]; omega
      · have ei : i = l.length := by omega
        subst ei
        have HM : Hid (OwI wr B (.slice (some ⟨g, 0, none⟩) l.length cap) (markI k l.length)) := by
          have q := FO.out
          rw [List.drop_eq_nil_of_le (Nat.le_refl _), List.append_nil] at q
          exact q
        go_wp2_with fail
        go_ret
        exact ⟨rfl, HM.out, FG.out⟩
set_option maxRecDepth 20000 in
set_option maxHeartbeats 16000000 in
theorem heldInt64S_any (B : Nat) (v : Value) (n : Nat) (k : Int) (k1 : 0 ≤ k) (k2 : k ≤ 100) (hl : n ≤ 1048576) (w : World) (h : OwI w B v (markI k n)) :
    Calls Try.prog 56 #[v, .int .i64 k] w fun e w' => e = .returned (.int .i64 (k + n)) ∧ w' = w := by
  rcases h.cases with ⟨rfl, hn⟩ | ⟨g, cap, rfl⟩
  · have n0 : n = 0 := by have := congrArg List.length hn; rw [markI_len] at this; simpa using this
    subst n0
    clear h hn
    go_enter Try.func56, Try.ntmps56
    go_wp2_with fail
    go_loopw [1, 5] (fun kk ii wr => ii = .int .i64 0 ∧ kk = .int .i64 k ∧ wr = w) (fun _ _ _ => 0)
    case atStart => exact ⟨rfl, rfl, rfl⟩
    case round =>
      obtain ⟨rfl, rfl, rfl⟩ := hrel
      go_wp2_with fail
      go_ret
      exact ⟨ret_int (by simp), rfl⟩
  · rw [markI_len] at h ⊢
    have HO : Hid (OwI w B (.slice (some ⟨g, 0, none⟩) n cap) (markI k n)) := h
    clear h
    go_enter Try.func56, Try.ntmps56
    go_wp2_with fail
    go_loopw [1, 5] (fun kk ii wr => ∃ i : Nat, ii = .int .i64 i ∧ i ≤ n ∧ kk = .int .i64 (k + (i : Int)) ∧ wr = w) (fun _ ii _ => n - (intOf ii).toNat)
    case atStart => exact ⟨0, rfl, by omega, by simp, rfl⟩
    case round =>
      obtain ⟨i, rfl, hi, rfl, rfl⟩ := hrel
      by_cases hlt : i < n
      · have c0 := HO.out.cell (markI_get (k := k) hlt)
        have ew : IntKind.i64.wrap (k + (i : Int) + 1) = k + (i : Int) + 1 := IntWalk.i64_in _ (by omega)
        have ew0 : IntKind.i64.wrap (k + (i : Int)) = k + (i : Int) := IntWalk.i64_in _ (by omega)
        go_wp2_with fail
        go_roundw
        case rel => exact ⟨i + 1, by simp, by omega, by congr 1; omega, by first | rfl | trivial⟩
        case measure => simp [intOf]; omega
      · have ei : i = n := by omega
        subst ei
        go_wp2_with fail
        go_ret
        exact ⟨rfl, rfl⟩
set_option maxRecDepth 20000 in
set_option maxHeartbeats 16000000 in
theorem markIntsResult_any (B : Nat) (kc : Int) (v : Value) (l : List Int) (k : Int) (k1 : 0 ≤ k) (k2 : k ≤ 100) (hl : l.length ≤ 1048576) (w : World) (h : OwI w B v l) :
    Calls Try.prog 30 #[.agg #[.int .i64 kc, v], .int .i64 k] w fun e w' => e = .returned (.int .i64 (k + l.length)) ∧ OwI w' B v (markI k l.length) ∧ Turn w w' v := by
  obtain ⟨a, cap, rfl⟩ := h.sl
  have HO : Hid (OwI (w.alloc (.cells #[.int .i64 kc, .slice a l.length cap] 30)) B (.slice a l.length cap) l) := h.alloc _
  have HT : Hid (Turn w (w.alloc (.cells #[.int .i64 kc, .slice a l.length cap] 30)) (.slice a l.length cap)) := ⟨World.grownBy_alloc _ _ _⟩
  clear h
  go_enter Try.func30, Try.ntmps30
  go_wp2_with (go_at_call 29; refine (markInt64S_any B (.slice a l.length cap) l k k1 k2 hl _ HO.out).mono ?_; rintro e w1 ⟨rfl, ho, hg⟩; have HO : Hid (OwI w1 B (.slice a l.length cap) (markI k l.length)) := ho; have HT : Hid (Turn w w1 (.slice a l.length cap)) := HT.out.trans ⟨hg⟩; clear ho hg)
  go_ret
  exact ⟨rfl, HO.out, HT.out⟩
set_option maxRecDepth 20000 in
set_option maxHeartbeats 16000000 in
theorem heldIntsResult_any (B : Nat) (kc : Int) (v : Value) (n : Nat) (k : Int) (k1 : 0 ≤ k) (k2 : k ≤ 100) (hl : n ≤ 1048576) (w : World) (h : OwI w B v (markI k n)) :
    Calls Try.prog 31 #[.agg #[.int .i64 kc, v], .int .i64 k] w fun e w' => e = .returned (.int .i64 (k + n)) ∧ Below w.heap.size w w' := by
  obtain ⟨a, cap, rfl⟩ := h.sl
  have HO : Hid (OwI (w.alloc (.cells #[.int .i64 kc, .slice a (markI k n).length cap] 30)) B (.slice a (markI k n).length cap) (markI k n)) := h.alloc _
  have FB : Hid (Below w.heap.size w (w.alloc (.cells #[.int .i64 kc, .slice a (markI k n).length cap] 30))) := (Below.refl _ _).alloc (Nat.le_refl _) _
  have hnn : ¬ (k + (n : Int) < 0) := by omega
  rw [markI_len] at HO FB
  rw [markI_len]
  clear h
  go_enter Try.func31, Try.ntmps31
  go_wp2_with (go_at_call 56; refine (heldInt64S_any B (.slice a n cap) n k k1 k2 hl _ HO.out).mono ?_; rintro e w1 ⟨rfl, hw⟩; obtain rfl := hw.symm; clear hw)
  go_ret
  exact ⟨rfl, FB.out⟩
/-- A result of numbers lies in the block b. -/
structure IR (w : World) (b : Nat) (k : Int) (v : Value) : Prop where
  c0 : w.cell? ⟨b, 0, none⟩ = some (.int .i64 k)
  c1 : w.cell? ⟨b, 1, none⟩ = some v
theorem IR.lt {w : World} {b : Nat} {k : Int} {v : Value} (a : IR w b k v) : b < w.heap.size := World.block_lt_of_cell? w _ a.c0
theorem IR.of {W w : World} {b : Nat} {k : Int} {v : Value} (a : IR W b k v) (hc : ∀ o, w.cell? ⟨b, o, none⟩ = W.cell? ⟨b, o, none⟩) : IR w b k v := ⟨(hc 0).trans a.c0, (hc 1).trans a.c1⟩
theorem IR.below {W w : World} {b B : Nat} {k : Int} {v : Value} (a : IR W b k v) (hb : Below B W w) (hB : b < B) : IR w b k v := a.of (fun o => hb.cell (p := ⟨b, o, none⟩) hB)
theorem IR.alloc {W : World} {b : Nat} {k : Int} {v : Value} (a : IR W b k v) (o : Obj) : IR (W.alloc o) b k v := a.below ((Below.refl _ _).alloc (Nat.le_refl _) o) a.lt
theorem IR.grown {W w : World} {b : Nat} {k : Int} {v : Value} {row : Option Nat} (a : IR W b k v) (hg : W.grownBy w row) (hne : some b ≠ row) : IR w b k v := a.of (fun o => World.cell?_of_block (w := W) (hg.block b a.lt hne))
def putI (w : World) (b : Nat) (k : Int) (v : Value) : World := (w.setCell ⟨b, 0, none⟩ (.int .i64 k)).setCell ⟨b, 1, none⟩ v
theorem below_putI {B : Nat} {w W : World} (h : Below B w W) {b : Nat} (hb : B ≤ b) (k : Int) (v : Value) : Below B w (putI W b k v) := (h.setCell hb _).setCell hb _
theorem OwI.putI {w : World} {B b : Nat} {u : Value} {l : List Int} (h : OwI w B u l) (hne : ∀ j, u.ownBlock = some j → j ≠ b) (k : Int) (v : Value) : OwI (putI w b k v) B u l := by
  have e : u.ownBlock ≠ some b := fun e => hne b e rfl
  exact (h.other (p := ⟨b, 0, none⟩) e _).other (p := ⟨b, 1, none⟩) e _
theorem apartI {a b : Value} {N : Nat} (h : ∀ k, a.ownBlock = some k → k < N) (h2 : ∀ k, b.ownBlock = some k → N ≤ k) : a.ownBlock = none ∨ a.ownBlock ≠ b.ownBlock := by
  cases c : a.ownBlock with
  | none => exact Or.inl rfl
  | some k =>
    right
    intro e
    have h1 := h k c
    have h3 := h2 k e.symm
    omega
end Go.Proofs.Ytnpnlckdggakmaa
