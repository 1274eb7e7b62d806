/-
  The choice that the bytes make, and how long they are.
-/
import Derived.Test.YtoacnglcneliiaaGreatDoorSrc
import Derived.ProofKit
import Derived.OpenShut
namespace Go.Proofs.YtoacnglcneliiaaGreatDoor
open Go.RowKit Pl

theorem lwBig_no (a : Option Addr) (len cap : Nat) (h : len ≤ 1048576) (w : World) :
    Calls Tryz.prog 4 #[.slice a len cap] w fun e w' => e = .returned (.bool false) ∧ w' = w := by
  have hd : decide ((1048576 : Int) < (len : Int)) = false := decide_eq_false (by omega)
  go_enter Tryz.func4, Tryz.ntmps4
  go_wp2
  go_ret
  exact ⟨rfl, rfl⟩
theorem lwBig_yes (a : Option Addr) (len cap : Nat) (h : 1048576 < len) (hm : len ≤ maxLen) (w : World) :
    Calls Tryz.prog 4 #[.slice a len cap] w fun e w' => e = .returned (.bool true) ∧ w' = w := by
  unfold maxLen at hm
  have hd : decide ((1048576 : Int) < (len : Int)) = true := decide_eq_true (by omega)
  go_enter Tryz.func4, Tryz.ntmps4
  go_wp2
  go_ret
  exact ⟨rfl, rfl⟩

/-- What the shell of a law tells of a slice of bytes that came in. -/
def codeRow (w : World) (a : Option Addr) (len cap : Nat) (zs : List Int) : Prop :=
  (a = none ∧ len = 0 ∧ cap = 0 ∧ zs = []) ∨
  ∃ x, a = some x ∧ len ≤ cap ∧ cap ≤ maxLen ∧ zs.length = cap ∧ (∀ i, i < zs.length → w.cell? (x.add i) = some (.int .u8 (zs.getD i 0))) ∧ ∀ n ∈ zs, (Lit.int .u8 n).wf = true
/-- The bytes lie in a block that was there. -/
def CodeLt (w : World) (a : Option Addr) (len : Nat) : Prop := ∀ b off, a = some ⟨b, off, none⟩ → len ≠ 0 → b < w.heap.size
theorem codeLt_of {w : World} {a : Option Addr} {len cap : Nat} {zs : List Int} (h : codeRow w a len cap zs) : CodeLt w a len := by
  intro b off ha hl
  rcases h with ⟨h1, _⟩ | ⟨x, h1, h2, h3, h4, h5, _⟩
  · rw [h1] at ha; cases ha
  · rw [h1] at ha
    obtain rfl : x = ⟨b, off, none⟩ := by simpa using ha
    have hc0 := h5 0 (by omega)
    have := World.block_lt_of_cell? w _ hc0
    simpa [Addr.add] using this
theorem row_le {w : World} {a : Option Addr} {len cap : Nat} {zs : List Int} (h : codeRow w a len cap zs) : len ≤ maxLen := by
  rcases h with ⟨_, rfl, _, _⟩ | ⟨x, _, h1, h2, _⟩
  · exact Nat.zero_le _
  · omega
theorem codeIn_of {w : World} {a : Option Addr} {len cap : Nat} {zs : List Int} (h : codeRow w a len cap zs) (hl : len ≤ 1048576) (sb : Nat) (hsb : w.heap.size ≤ sb) : CodeIn w sb a len := by
  refine ⟨by omega, ?_⟩
  rcases h with ⟨_, rfl, _, _⟩ | ⟨x, rfl, h1, h2, h3, h4, h5⟩
  · exact Or.inl rfl
  · by_cases h0 : len = 0
    · exact Or.inl h0
    · obtain ⟨b, off, spot⟩ := x
      have hc0 := h4 0 (by omega)
      have hspot : spot = none := by simpa [Addr.add] using World.cell?_spot hc0
      subst hspot
      refine Or.inr ⟨b, off, rfl, ?_, fun i hi => ?_⟩
      · have := World.block_lt_of_cell? w _ hc0
        simp [Addr.add] at this
        omega
      · have hci := h4 i (by omega)
        have hw := getD_all (P := fun n => (Lit.int .u8 n).wf = true) h5 (i := i) (by omega)
        have e : Addr.add ⟨b, off, none⟩ i = ⟨b, off + i, none⟩ := by unfold Addr.add; split <;> simp_all
        rw [e] at hci
        exact ⟨_, hci, (bounds_u8 hw).1, (bounds_u8 hw).2⟩
/-- The bytes can be read as before where nothing that was there has turned. -/
theorem codeIn_below {w W W' : World} {a : Option Addr} {len : Nat} (h : ∀ sb, w.heap.size ≤ sb → CodeIn W sb a len) (hlt : CodeLt w a len) (hb : Below w.heap.size W W') : ∀ sb, w.heap.size ≤ sb → CodeIn W' sb a len := by
  intro sb hsb
  obtain ⟨h1, h2⟩ := h sb hsb
  refine ⟨h1, ?_⟩
  rcases h2 with h2 | ⟨b, off, h3, h4, h5⟩
  · exact Or.inl h2
  · by_cases h0 : len = 0
    · exact Or.inl h0
    · have hblt := hlt b off h3 h0
      refine Or.inr ⟨b, off, h3, h4, fun i hi => ?_⟩
      obtain ⟨z, hz, z1, z2⟩ := h5 i hi
      exact ⟨z, (hb.cell (p := ⟨b, off + i, none⟩) hblt).trans hz, z1, z2⟩
theorem codeIn_drawn {B : Nat} {W W' : World} {a : Option Addr} {len k : Nat} (h : ∀ sb, B ≤ sb → CodeIn W sb a len) (e : W' = W.drewN k) : ∀ sb, B ≤ sb → CodeIn W' sb a len := by
  rw [e]; exact h
theorem below_drawn {B : Nat} {w W W' : World} {k : Nat} (h : Below B w W) (e : W' = W.drewN k) : Below B w W' := by
  rw [e]; exact ⟨h.os, h.tape, h.output, h.size, h.block⟩
end Go.Proofs.YtoacnglcneliiaaGreatDoor
