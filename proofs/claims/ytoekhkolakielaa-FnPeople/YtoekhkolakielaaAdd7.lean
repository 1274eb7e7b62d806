/-
  A call put to a ledger, in plain.
-/
import Derived.Test.YtoekhkolakielaaLedK
import Derived.Test.YtoekhkolakielaaPersI
namespace Go.Proofs.Ytoekhkolakielaa
open Go.RowKit Pl
set_option linter.unusedSimpArgs false
set_option linter.unusedVariables false

/-- What a call is answered; the ledger behind it. -/
def Hs.addC (h : Hs) (x : Lg) (f t sh ca : Int) : Int :=
  if Hs.call h f t = 0 then (if carB sh ca = true then (if h.qu ≤ (cnt 0 (-1) 0 x.ps : Int) then 7 else if x.nx = 1000000000000000 ∨ (60 ≤ x.ps.length ∧ x.ps.length ≤ fi x.ps) then 2 else 0) else 3) else Hs.call h f t
def Hs.addK (h : Hs) (x : Lg) (f t sh ca : Int) : Int := if Hs.led h x = 0 then Hs.addC h x f t sh ca else Hs.led h x
def Hs.addI (h : Hs) (x : Lg) (f t sh ca : Int) : Int := if Hs.addK h x f t sh ca = 0 then x.nx else 0
def Hs.addV (h : Hs) (x : Lg) (f t sh ca : Int) : Lg := if Hs.addK h x f t sh ca = 0 then ⟨x.nx + 1, freeL x.ps ++ [(⟨x.nx, f, t, sh, ca, 0, 0⟩ : Pe)]⟩ else ⟨0, []⟩
theorem free_at (l : List Pe) : (freeL l ++ [zeroP])[(freeL l).length]? = some zeroP := by simp
theorem free_set {w : World} {B g : Nat} {l : List Pe} {id f t sh ca : Int} (h : Ow w B g ((freeL l).length + 1) ((freeL l).length + 1) (freeL l ++ [zeroP])) (hz : (freeL l ++ [zeroP])[(freeL l).length]? = some zeroP) :
    Ow (((((w.setCell ⟨g, (freeL l).length * 7, none⟩ (.int .i64 id)).setCell ⟨g, (freeL l).length * 7 + 1, none⟩ (.int .i64 f)).setCell ⟨g, (freeL l).length * 7 + 2, none⟩ (.int .i64 t)).setCell ⟨g, (freeL l).length * 7 + 3, none⟩ (.int .i64 sh)).setCell ⟨g, (freeL l).length * 7 + 4, none⟩ (.int .i64 ca)) B g ((freeL l).length + 1) ((freeL l).length + 1) (freeL l ++ [(⟨id, f, t, sh, ca, 0, 0⟩ : Pe)]) := by
  have s0 := h.set (k := 0) (u := .int .i64 id) (q := ⟨id, 0, 0, 0, 0, 0, 0⟩) hz (by omega) rfl
  have s1 := s0.set (k := 1) (u := .int .i64 f) (q := ⟨id, f, 0, 0, 0, 0, 0⟩) (get_set hz) (by omega) rfl
  have s2 := s1.set (k := 2) (u := .int .i64 t) (q := ⟨id, f, t, 0, 0, 0, 0⟩) (get_set (get_set hz)) (by omega) rfl
  have s3 := s2.set (k := 3) (u := .int .i64 sh) (q := ⟨id, f, t, sh, 0, 0, 0⟩) (get_set (get_set (get_set hz))) (by omega) rfl
  have s4 := s3.set (k := 4) (u := .int .i64 ca) (q := ⟨id, f, t, sh, ca, 0, 0⟩) (get_set (get_set (get_set (get_set hz)))) (by omega) rfl
  simp only [List.set_set] at s4
  have e : (freeL l ++ [zeroP]).set (freeL l).length (⟨id, f, t, sh, ca, 0, 0⟩ : Pe) = freeL l ++ [(⟨id, f, t, sh, ca, 0, 0⟩ : Pe)] := by
    rw [List.set_append_right _ _ (Nat.le_refl _), Nat.sub_self]
    rfl
  rw [e] at s4
  exact s4
theorem led_C {h : Hs} {x : Lg} (hk : Hs.led h x = 0) : Hs.ledC h x = 0 := by
  unfold Hs.led at hk
  by_cases q : h.fault = 0
  · rw [if_pos q] at hk; exact hk
  · rw [if_neg q] at hk; exact absurd hk q
theorem led_len {h : Hs} {x : Lg} (hk : Hs.led h x = 0) : x.ps.length ≤ 60 := by
  have hf := led_C hk
  unfold Hs.ledC at hf
  split at hf
  case isFalse => omega
  split at hf <;> omega
theorem led_nx {h : Hs} {x : Lg} (hk : Hs.led h x = 0) : 1 ≤ x.nx ∧ x.nx ≤ 1000000000000000 := by
  have hf := led_C hk
  unfold Hs.ledC at hf
  split at hf
  case isFalse => omega
  case isTrue q => exact inB_iff.1 q
theorem RL.other {W : World} {b k o : Nat} {u : Value} (a : RL W b) (hne : b ≠ k) : RL (W.setCell ⟨k, o, none⟩ u) b := a.of (fun _ => World.cell?_setCell_other _ _ _ _ (fun e => hne (congrArg Addr.block e).symm)) (fun _ => World.frozen?_setCell _ _ _ _)
theorem addV_len (h : Hs) (x : Lg) (f t sh ca : Int) (hl : x.ps.length ≤ 1048575) : (Hs.addV h x f t sh ca).ps.length ≤ 1048576 := by
  unfold Hs.addV
  split
  · show (freeL x.ps ++ _).length ≤ _
    rw [List.length_append]
    have : (freeL x.ps).length ≤ x.ps.length := by
      unfold freeL
      split
      · exact List.length_eraseIdx_le _ _
      · exact Nat.le_refl _
    simp
    omega
  · simp
end Go.Proofs.Ytoekhkolakielaa
