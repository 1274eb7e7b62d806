/-
  The bytes of a code, read one by one: what the model's source of choices answers (a number below the bound), and what it leaves (its own count, one more).
-/
import Derived.Test.YtoacnglcneliiaaGreatDoorFnd
import Derived.Deep.QuietTactic
import Derived.BigQuiet
import Derived.Deep.Draws
namespace Go.Proofs.YtoacnglcneliiaaGreatDoor
open Go.RowKit Pl

/-- The bytes that a slice leads to can be read, in a block below B. -/
def CodeIn (w : World) (B : Nat) (a : Option Addr) (len : Nat) : Prop :=
  len ≤ 2000000 ∧ (len = 0 ∨ ∃ b off, a = some ⟨b, off, none⟩ ∧ b < B ∧ ∀ i, i < len → ∃ z : Int, w.cell? ⟨b, off + i, none⟩ = some (.int .u8 z) ∧ 0 ≤ z ∧ z ≤ 255)

theorem modEnd (n x : Int) (hn : 1 ≤ n) (W : World) (k : Nat) : ∃ (v k' : Nat), Ending.returned (.int .i64 (x % n)) = .returned (.int .i64 v) ∧ (v : Int) < n ∧ W.drewN k = W.drewN k' := by
  have h1 := Int.emod_nonneg x (b := n) (by omega)
  have h2 := Int.emod_lt_of_pos x (b := n) (by omega)
  exact ⟨(x % n).toNat, k, ret_int (by omega), by omega, rfl⟩

set_option maxHeartbeats 1000000 in
theorem l1Next_any (sb : Nat) (a : Option Addr) (len cap t : Nat) (n : Int) (w : World) (hs0 : w.cell? ⟨sb, 0, none⟩ = some (.slice a len cap)) (hs1 : w.cell? ⟨sb, 1, none⟩ = some (.int .i64 t)) (hfz : w.frozen? ⟨sb, 1, none⟩ = false)
    (ht : t ≤ 1000000) (hn : 1 ≤ n) (hn2 : n ≤ 1000000000) (B : Nat) (hB : B ≤ sb) (hc : CodeIn w B a len) :
    Calls Tryz.prog 44 #[.pointer (some ⟨sb, 0, none⟩), .int .i64 n] w fun e w' => ∃ (v k : Nat), e = .returned (.int .i64 v) ∧ (v : Int) < n ∧ w' = (w.setCell ⟨sb, 1, none⟩ (.int .i64 (t + 1))).drewN k := by
  have hnz : (n == 0) = false := by simp; omega
  obtain ⟨hl, hc⟩ := hc
  rcases hc with rfl | ⟨b, off, rfl, hlt, hc⟩
  · have hm := Int.emod_nonneg (↑t * 7) (b := n) (by omega)
    have hm' := Int.emod_lt_of_pos (↑t * 7) (b := n) (by omega)
    go_enter Tryz.func44, Tryz.ntmps44
    go_wp2
    go_ret
    exact ⟨(↑t * 7 % n).toNat, 0, ret_int (by omega), by omega, rfl⟩
  · have hne : b ≠ sb := by omega
    clear hlt
    by_cases hl0 : len = 0
    · subst hl0
      have hm := Int.emod_nonneg (↑t * 7) (b := n) (by omega)
      have hm' := Int.emod_lt_of_pos (↑t * 7) (b := n) (by omega)
      clear hc
      go_enter Tryz.func44, Tryz.ntmps44
      go_wp2
      go_ret
      exact ⟨(↑t * 7 % n).toNat, 0, ret_int (by omega), by omega, rfl⟩
    · obtain ⟨z0, c0, z01, z02⟩ := hc (t % len) (Nat.mod_lt _ (by omega))
      obtain ⟨z1, c1, z11, z12⟩ := hc ((t + 1) % len) (Nat.mod_lt _ (by omega))
      have hlz : ((len : Int) == 0) = false := by simp; omega
      have hlz' : (1 : Int) ≤ len := by omega
      have m0 : (0 : Int) ≤ (t : Int) % len := Int.emod_nonneg _ (by omega)
      have m0' : (t : Int) % len < len := Int.emod_lt_of_pos _ (by omega)
      have m1 : (0 : Int) ≤ ((t : Int) + 1) % len := Int.emod_nonneg _ (by omega)
      have m1' : ((t : Int) + 1) % len < len := Int.emod_lt_of_pos _ (by omega)
      have q0 : (0 : Int) ≤ (t : Int) / len := Int.ediv_nonneg (by omega) (by omega)
      have q1 : (t : Int) / len ≤ 1000000 := Int.ediv_le_of_le_mul (by omega) (by have : 1000000 * 1 ≤ 1000000 * (len : Int) := Int.mul_le_mul_of_nonneg_left hlz' (by omega); omega)
      clear hc
      by_cases hbig : 200 < n
      · go_enter Tryz.func44, Tryz.ntmps44
        go_wp2
        go_quiet (fail)
        go_wp2
        go_quiet (fail)
        go_wp2
        go_ret
        exact modEnd n _ hn _ _
      · go_enter Tryz.func44, Tryz.ntmps44
        go_wp2
        go_quiet (fail)
        go_wp2
        go_ret
        exact modEnd n _ hn _ _

/-- Of all that was there only one block has turned. -/
structure Keeps (sb : Nat) (w w' : World) : Prop where
  os : w'.os = w.os
  tape : w'.tape = w.tape
  output : w'.output = w.output
  size : w.heap.size ≤ w'.heap.size
  block : ∀ i, i < w.heap.size → i ≠ sb → w'.heap[i]? = w.heap[i]?
theorem Keeps.refl (sb : Nat) (w : World) : Keeps sb w w := ⟨rfl, rfl, rfl, Nat.le_refl _, fun _ _ _ => rfl⟩
theorem Keeps.trans {sb : Nat} {a b c : World} (h : Keeps sb a b) (k : Keeps sb b c) : Keeps sb a c :=
  ⟨k.os.trans h.os, k.tape.trans h.tape, k.output.trans h.output, Nat.le_trans h.size k.size, fun i hi hn => (k.block i (Nat.lt_of_lt_of_le hi h.size) hn).trans (h.block i hi hn)⟩
theorem Keeps.alloc {sb : Nat} {a b : World} (h : Keeps sb a b) (o : Obj) : Keeps sb a (b.alloc o) :=
  h.trans ⟨rfl, rfl, rfl, by simp, fun k hk _ => Below.heap_alloc _ _ _ (by omega)⟩
theorem Keeps.drewN {sb : Nat} {a b : World} (h : Keeps sb a b) (k : Nat) : Keeps sb a (b.drewN k) := ⟨h.os, h.tape, h.output, h.size, h.block⟩
theorem Keeps.store {sb : Nat} {a b : World} (h : Keeps sb a b) (o : Nat) (v : Value) : Keeps sb a (b.setCell ⟨sb, o, none⟩ v) :=
  h.trans ⟨rfl, rfl, rfl, by simp [World.setCell], fun k _ hn => Below.heap_setCell _ _ _ _ hn⟩
theorem Keeps.cell {sb : Nat} {w w' : World} (h : Keeps sb w w') {p : Addr} (hp : p.block < w.heap.size) (hn : p.block ≠ sb) : w'.cell? p = w.cell? p := World.cell?_of_block (w := w) (h.block p.block hp hn)
theorem Keeps.below {sb B : Nat} {w w' : World} (h : Keeps sb w w') (hB : B ≤ sb) (hw : B ≤ w.heap.size) : Below B w w' :=
  ⟨h.os, h.tape, h.output, h.size, fun i hi => h.block i (by omega) (by omega)⟩

/-- The source of choices: its block, the bytes, how many have been read. -/
structure Src (w : World) (sb B : Nat) (a : Option Addr) (len cap t : Nat) : Prop where
  lt : sb < w.heap.size
  hB : B ≤ sb
  c0 : w.cell? ⟨sb, 0, none⟩ = some (.slice a len cap)
  c1 : w.cell? ⟨sb, 1, none⟩ = some (.int .i64 t)
  fz : w.frozen? ⟨sb, 1, none⟩ = false
  hc : CodeIn w B a len
theorem CodeIn.keep {w w' : World} {B : Nat} {a : Option Addr} {len : Nat} (h : CodeIn w B a len) (hk : ∀ b off, b < B → b < w.heap.size → w'.cell? ⟨b, off, none⟩ = w.cell? ⟨b, off, none⟩) : CodeIn w' B a len := by
  obtain ⟨h1, h2⟩ := h
  refine ⟨h1, ?_⟩
  rcases h2 with h2 | ⟨b, off, h3, h4, h5⟩
  · exact Or.inl h2
  · refine Or.inr ⟨b, off, h3, h4, fun i hi => ?_⟩
    obtain ⟨z, hz, z1, z2⟩ := h5 i hi
    exact ⟨z, (hk b _ h4 (World.block_lt_of_cell? w _ hz)).trans hz, z1, z2⟩
theorem Src.alloc {w : World} {sb B : Nat} {a : Option Addr} {len cap t : Nat} (h : Src w sb B a len cap t) (o : Obj) : Src (w.alloc o) sb B a len cap t :=
  ⟨by have := h.lt; simp; omega, h.hB, (World.cell?_alloc_past _ _ _ h.lt).trans h.c0, (World.cell?_alloc_past _ _ _ h.lt).trans h.c1, (World.frozen?_of_block (w := w) (Below.heap_alloc _ _ _ h.lt)).trans h.fz, h.hc.keep fun b off _ hb => World.cell?_alloc_past _ _ _ hb⟩
theorem Src.drewN {w : World} {sb B : Nat} {a : Option Addr} {len cap t : Nat} (h : Src w sb B a len cap t) (k : Nat) : Src (w.drewN k) sb B a len cap t :=
  ⟨h.lt, h.hB, h.c0, h.c1, h.fz, h.hc⟩
theorem Src.store {w : World} {sb B : Nat} {a : Option Addr} {len cap t : Nat} (h : Src w sb B a len cap t) : Src (w.setCell ⟨sb, 1, none⟩ (.int .i64 ((t : Int) + 1))) sb B a len cap (t + 1) :=
  ⟨by have := h.lt; simpa [World.setCell] using this, h.hB, (World.cell?_setCell_other _ _ _ _ (by simp)).trans h.c0, World.cell?_setCell_same _ _ _ h.c1, (World.frozen?_setCell _ _ _ _).trans h.fz, h.hc.keep fun b off hb _ => World.cell?_setCell_other _ _ _ _ (fun e => by have : sb = b := congrArg Addr.block e; have := h.hB; omega)⟩

/-- The next choice: a number below the bound; the count is one more, all other blocks stay. -/
theorem l1Next_src (sb B : Nat) (a : Option Addr) (len cap t : Nat) (n : Int) (w : World) (h : Src w sb B a len cap t) (ht : t ≤ 1000000) (hn : 1 ≤ n) (hn2 : n ≤ 1000000000) :
    Calls Tryz.prog 44 #[.pointer (some ⟨sb, 0, none⟩), .int .i64 n] w fun e w' => ∃ v : Nat, e = .returned (.int .i64 v) ∧ (v : Int) < n ∧ Src w' sb B a len cap (t + 1) ∧ Keeps sb w w' := by
  refine (l1Next_any sb a len cap t n w h.c0 h.c1 h.fz ht hn hn2 B h.hB h.hc).mono ?_
  rintro e w' ⟨v, k, he, hv, rfl⟩
  exact ⟨v, he, hv, h.store.drewN k, ((Keeps.refl _ _).store _ _).drewN k⟩

/-- A choice out of a list. -/
theorem l1Pick_src (sb B lb m : Nat) (xs : Nat → Int) (a : Option Addr) (len cap t : Nat) (w : World) (h : Src w sb B a len cap t) (ht : t ≤ 1000000) (hm : 1 ≤ m) (hm2 : m ≤ 1000) (hne : lb ≠ sb) (hx : ∀ i, i < m → w.cell? ⟨lb, i, none⟩ = some (.int .i64 (xs i))) :
    Calls Tryz.prog 45 #[.pointer (some ⟨sb, 0, none⟩), .slice (some ⟨lb, 0, none⟩) m m] w fun e w' => ∃ i : Nat, e = .returned (.int .i64 (xs i)) ∧ i < m ∧ Src w' sb B a len cap (t + 1) ∧ Keeps sb w w' := by
  have HX : Hid (∀ i, i < m → w.cell? ⟨lb, i, none⟩ = some (.int .i64 (xs i))) := hx
  have hlt : lb < w.heap.size := World.block_lt_of_cell? w _ (hx 0 (by omega))
  have HS : Hid (Src w sb B a len cap t) := h
  clear hx h
  go_enter Tryz.func45, Tryz.ntmps45
  go_wp2_with (go_at_call 44; refine (l1Next_src sb B a len cap t m _ HS.out ht (by omega) (by omega)).mono ?_; rintro e w' ⟨v, rfl, hv, hs, hk⟩; have hcell := (hk.cell (p := ⟨lb, v, none⟩) hlt hne).trans (HX.out v (by omega)); have HK : Hid (Keeps sb w w') := hk; have HS' : Hid (Src w' sb B a len cap (t + 1)) := hs; clear hk hs; have hv' : v < m := by omega)
  go_ret
  exact ⟨v, rfl, hv', HS'.out, HK.out⟩

theorem l1Source_any (B : Nat) (a : Option Addr) (len cap : Nat) (w : World) (hB : B ≤ w.heap.size) (hc : CodeIn w B a len) :
    Calls Tryz.prog 21 #[.slice a len cap] w fun e w' => e = .returned (.pointer (some ⟨w.heap.size, 0, none⟩)) ∧ Src w' w.heap.size B a len cap 0 ∧ Keeps w.heap.size w w' := by
  have HC : Hid (CodeIn w B a len) := hc
  clear hc
  go_enter Tryz.func21, Tryz.ntmps21
  go_wp2
  go_ret
  refine ⟨rfl, ⟨by simp, hB, by simp, by simp, by simp, HC.out.keep fun b off _ hb => World.cell?_alloc_past _ _ _ hb⟩, (Keeps.refl _ _).alloc _⟩

theorem list_cells (W : World) (T : TypeId) (l : List Int) (i : Nat) (h : i < l.length) : (W.alloc (.cells (l.map (Value.int .i64)).toArray T)).cell? ⟨W.heap.size, i, none⟩ = some (.int .i64 (l.getD i 0)) := by
  rw [World.cell?_alloc_at _ _ _ _ rfl]
  simp [h]
theorem getD_all {P : Int → Prop} {l : List Int} (h : ∀ y ∈ l, P y) {i : Nat} (hi : i < l.length) : P (l.getD i 0) := by
  have e : l.getD i 0 = l[i] := by simp [List.getD, hi]
  rw [e]; exact h _ (List.getElem_mem hi)

/-- A choice out of a list that was just made. -/
theorem l1Pick_list (sb B : Nat) (T : TypeId) (l : List Int) (P : Int → Prop) (hP : ∀ y ∈ l, P y) (a : Option Addr) (len cap t : Nat) (W w : World) (hk : Keeps sb w W) (h : Src W sb B a len cap t) (ht : t ≤ 1000000) (hm : 1 ≤ l.length) (hm2 : l.length ≤ 1000) :
    Calls Tryz.prog 45 #[.pointer (some ⟨sb, 0, none⟩), .slice (some ⟨W.heap.size, 0, none⟩) l.length l.length] (W.alloc (.cells (l.map (Value.int .i64)).toArray T)) fun e w' => ∃ v : Int, e = .returned (.int .i64 v) ∧ P v ∧ Src w' sb B a len cap (t + 1) ∧ Keeps sb w w' := by
  refine (l1Pick_src sb B W.heap.size l.length (fun i => l.getD i 0) a len cap t _ (h.alloc _) ht hm hm2 (by have := h.lt; omega) (fun i hi => list_cells W T l i hi)).mono ?_
  rintro e w' ⟨i, he, hi, hs, hk'⟩
  exact ⟨_, he, getD_all hP hi, hs, (hk.alloc _).trans hk'⟩

/-- A store into a block of one's own leaves the source as it is. -/
theorem Src.other {w : World} {sb B : Nat} {a : Option Addr} {len cap t : Nat} (h : Src w sb B a len cap t) (b o : Nat) (v : Value) (hb : b ≠ sb) (hB : B ≤ b) : Src (w.setCell ⟨b, o, none⟩ v) sb B a len cap t :=
  ⟨by have := h.lt; simpa [World.setCell] using this, h.hB, (World.cell?_setCell_other _ _ _ _ (fun e => hb (congrArg Addr.block e))).trans h.c0, (World.cell?_setCell_other _ _ _ _ (fun e => hb (congrArg Addr.block e))).trans h.c1, (World.frozen?_setCell _ _ _ _).trans h.fz, h.hc.keep fun c off hc _ => World.cell?_setCell_other _ _ _ _ (fun e => by have : b = c := congrArg Addr.block e; omega)⟩
/-- What happens below the blocks that were there leaves the source as it is. -/
theorem Src.below {W w : World} {sb B : Nat} {a : Option Addr} {len cap t : Nat} (h : Src W sb B a len cap t) (hb : Below W.heap.size W w) : Src w sb B a len cap t :=
  ⟨Nat.lt_of_lt_of_le h.lt hb.size, h.hB, (hb.cell (p := ⟨sb, 0, none⟩) h.lt).trans h.c0, (hb.cell (p := ⟨sb, 1, none⟩) h.lt).trans h.c1, (hb.frozen (p := ⟨sb, 1, none⟩) h.lt).trans h.fz, h.hc.keep fun c off _ hl => hb.cell (p := ⟨c, off, none⟩) hl⟩
end Go.Proofs.YtoacnglcneliiaaGreatDoor
