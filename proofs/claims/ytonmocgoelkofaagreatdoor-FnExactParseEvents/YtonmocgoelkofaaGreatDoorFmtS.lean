/-
  The model's texts: digits, a number, a line.
-/
import Derived.Test.YtonmocgoelkofaaGreatDoorFmtP
import Derived.Test.YtonmocgoelkofaaGreatDoorFnd
import Derived.Test.YtonmocgoelkofaaGreatDoorEvB
import Derived.Laws.IdiomStrings
import Derived.Laws.Concat
import Derived.Deep.RegionHeld3
import Derived.BigGuardPart
namespace Go.Proofs.YtonmocgoelkofaaGreatDoor
open Go.RowKit Pl
set_option linter.unusedSimpArgs false
set_option linter.unusedVariables false

theorem cvB {W : World} {g : Nat} (c : Nat) (hc : c < 256) {x : Int} (hx : x = (c : Int)) (h : W.cell? ⟨g, 0, none⟩ = some (.int .u8 x)) : (convert 132 9 (.slice (some ⟨g, 0, none⟩) 1 1)).run Tryz.prog W = .ok (.string ⟨#[UInt8.ofNat c]⟩) W := by
  subst hx
  have r := run_convert_bytes_back (P := Tryz.prog) W 132 9 5 ⟨g, 0, none⟩ 1 [UInt8.ofNat c] Tryz.underlying132 Tryz.underlying5 Tryz.underlying9 (fun j hj => by
    have e : j = 0 := by simpa using hj
    subst e
    rw [show ((⟨g, 0, none⟩ : Addr).add 0) = ⟨g, 0, none⟩ by simp [Addr.add], h]
    simp
    omega)
  simpa using r
theorem ret_str {a b : ByteArray} (h : a = b) : Ending.returned (.string a) = Ending.returned (.string b) := by rw [h]
/-- Numbers that can be read, in a row. -/
def NIn (w : World) (g : Nat) (l : List Int) : Prop := g < w.heap.size ∧ ∀ (i : Nat) x, l[i]? = some x → w.cell? ⟨g, i, none⟩ = some (.int .i64 x)
theorem NIn.below {W w : World} {g : Nat} {l : List Int} (h : NIn W g l) {B : Nat} (hb : Below B W w) (hB : g < B) : NIn w g l := ⟨Nat.lt_of_lt_of_le h.1 hb.size, fun i x hx => (hb.cell (p := ⟨g, i, none⟩) hB).trans (h.2 i x hx)⟩
theorem NIn.take {w : World} {g : Nat} {l : List Int} (h : NIn w g l) (k : Nat) : NIn w g (l.take k) := ⟨h.1, fun i x hx => h.2 i x (by rw [List.getElem?_take] at hx; split at hx <;> first | exact hx | cases hx)⟩
structure WdA (w : World) (g : Nat) : Prop where
  lt : g < w.heap.size
  c : ∀ k : Nat, k < 6 → w.cell? ⟨g, k, none⟩ = some (.string (evW (k : Int)))
theorem WdA.below {W w : World} {g B : Nat} (h : WdA W g) (hb : Below B W w) (hB : g < B) : WdA w g := ⟨Nat.lt_of_lt_of_le h.lt hb.size, fun k hk => (hb.cell (p := ⟨g, k, none⟩) hB).trans (h.c k hk)⟩
theorem WdA.alloc {W : World} {g : Nat} (h : WdA W g) (o : Obj) : WdA (W.alloc o) g := h.below ((Below.refl _ _).alloc (Nat.le_refl _) o) h.lt
theorem WdA.at_ (w : World) (T : TypeId) : WdA (w.alloc (.cells #[.string ⟨#[]⟩, .string ⟨#[99, 97, 108, 108]⟩, .string ⟨#[98, 111, 97, 114, 100]⟩, .string ⟨#[116, 104, 101, 114, 101]⟩, .string ⟨#[111, 117, 116]⟩, .string ⟨#[103, 111, 110, 101]⟩] T)) w.heap.size := by
  refine ⟨by simp, fun k hk => ?_⟩
  rcases (show k = 0 ∨ k = 1 ∨ k = 2 ∨ k = 3 ∨ k = 4 ∨ k = 5 by omega) with rfl | rfl | rfl | rfl | rfl | rfl <;> simp [evW]
set_option maxRecDepth 20000 in
set_option maxHeartbeats 16000000 in
theorem l10Words_any (w : World) : Calls Tryz.prog 25 #[] w fun e w' => ∃ g, e = .returned (.slice (some ⟨g, 0, none⟩) 6 6) ∧ WdA w' g ∧ w.heap.size ≤ g ∧ Below w.heap.size w w' := by
  go_enter Tryz.func25, Tryz.ntmps25
  go_wp2_with fail
  go_ret
  exact ⟨w.heap.size, rfl, WdA.at_ w _, Nat.le_refl _, (Below.refl _ _).alloc (Nat.le_refl _) _⟩
theorem NIn.new (w : World) (l : List Int) (T : TypeId) : NIn (w.alloc (.cells (l.map (Value.int .i64)).toArray T)) w.heap.size l := by
  refine ⟨by simp, fun i x hx => ?_⟩
  simp [hx]
end Go.Proofs.YtonmocgoelkofaaGreatDoor
