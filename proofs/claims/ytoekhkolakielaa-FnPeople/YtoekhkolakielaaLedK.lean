/-
  The program's ledger: a free place.
-/
import Derived.Test.YtoekhkolakielaaLedF
import Derived.Test.YtoekhkolakielaaLedA
import Derived.Test.YtoekhkolakielaaPersJ
import Derived.Deep.RegionHeld3
import Derived.BigGuardPart
namespace Go.Proofs.Ytoekhkolakielaa
open Go.RowKit Pl
set_option linter.unusedSimpArgs false
set_option linter.unusedVariables false

theorem step_of {P : Program} {ops : Array Oper} {o : Oper} {a : Act} {w : World} {K : Act → World → Prop} {Q : Exit → Act → World → Prop} {E : Prop} (hg : o.guard = none) (h : Oper.wp P o a w K Q) : if Region.wanted o (yielded ops a.tmps) = true then Oper.wp P o a w K Q else E := by
  rw [if_pos (by simp [Region.wanted, hg])]
  exact h
/-- The first who neither waits nor rides. -/
def fi : List Pe → Nat
  | [] => 0
  | p :: l => if doneB p = true then 0 else fi l + 1
theorem fi_le (l : List Pe) : fi l ≤ l.length := by
  induction l with
  | nil => exact Nat.le_refl _
  | cons p l ih =>
    unfold fi
    split
    · simp
    · simp; exact ih
theorem fi_eq {l : List Pe} {i : Nat} {p : Pe} (h : l[i]? = some p) (hd : doneB p = true) (hn : ∀ (j : Nat) (q : Pe), j < i → l[j]? = some q → doneB q = false) : fi l = i := by
  induction l generalizing i with
  | nil => simp at h
  | cons q l ih =>
    cases i with
    | zero =>
      simp at h
      subst h
      exact if_pos hd
    | succ i =>
      have q0 := hn 0 q (by omega) (by simp)
      unfold fi
      rw [if_neg (by rw [q0]; simp), ih (by simpa using h) (fun j r hj hr => hn (j + 1) r (by omega) (by simpa using hr))]
theorem fi_all {l : List Pe} (hn : ∀ (j : Nat) (q : Pe), l[j]? = some q → doneB q = false) : fi l = l.length := by
  induction l with
  | nil => rfl
  | cons q l ih =>
    have q0 := hn 0 q (by simp)
    unfold fi
    rw [if_neg (by rw [q0]; simp), ih (fun j r hr => hn (j + 1) r (by simpa using hr))]
    rfl
def fiR (l : List Pe) : Int := if fi l < l.length then (fi l : Int) else -1
/-- A row, cut at its head. -/
theorem cut_from (b o k n cap : Nat) (z : Int) (hz : z = (k : Int)) (hk : k ≤ n) : ∃ dp : Option Addr, (k < cap → dp = some ⟨b, o + k * 7, none⟩) ∧ ∀ w, (Instr.slice 26 (.slice (some ⟨b, o, none⟩) n cap) (some (.int .i64 z)) none none).run Try.prog w = .ok (.slice dp (n - k) (cap - k)) w := by
  subst hz
  obtain ⟨i, hi, h0, hs, hb⟩ := info_parts infoPE
  have he : Try.prog.elem 26 = 42 := by kernel_rfl
  have hu : Try.prog.underlying 26 = some (.slice (Try.prog.elem 26)) := by rw [he]; exact undPS
  have hsz : ∀ w, (sizeOf (Try.prog.elem 26)).run Try.prog w = .ok 7 w := by
    intro w
    rw [he]
    simp [sizeOf, typeInfo, hi, hs]
  by_cases c : k < cap
  · refine ⟨some ⟨b, o + k * 7, none⟩, fun _ => rfl, fun w => ?_⟩
    have c2 : ¬ cap ≤ k := by omega
    have c3 : ¬ cap - k = 0 := by omega
    rw [run_slice_l _ _ _ _ _ hu .i64 (k : Int) (by omega) (by omega), hsz w]
    simp [Result.andThen, sliced, Addr.add, c, c2, c3]
    rw [if_neg (by omega)]
    by_cases e : k * 7 = 0
    · simp [e]
    · simp [e]
  · refine ⟨(if cap = k then some ⟨b, o, none⟩ else (some (⟨b, o, none⟩ : Addr)).map (·.add (k * 7))), fun h => absurd h c, fun w => ?_⟩
    rw [run_slice_l _ _ _ _ _ hu .i64 (k : Int) (by omega) (by omega), hsz w, Int.toNat_natCast]
    rfl
theorem wp_copy_ow {w : World} {a : Act} {K : Act → World → Prop} {Q : Exit → Act → World → Prop} {d s : Operand} {dst : Option Tmp} {ty : TypeId} {ps : String} {af : Array Edge}
    (B g n cap : Nat) (l : List Pe) (hO : Ow w B g n cap l) (k : Nat) (m : List Pe) (dp sp : Option Addr) (dLen dCap sLen sCap : Nat) (hd : a.eval d = .slice dp dLen dCap) (hs : a.eval s = .slice sp sLen sCap) (hm : m.length = Nat.min sLen dLen)
    (hpos : 0 < m.length → dp = some ⟨g, k * 7, none⟩ ∧ ∃ b f, sp = some ⟨b, f, none⟩ ∧ ∀ i p, m[i]? = some p → P7 w b (f + i * 7) p) (hfit : k + m.length ≤ n)
    (h : ∀ w', Ow w' B g n cap (l.take k ++ (m ++ l.drop (k + m.length))) → w.grownBy w' (some g) → K (a.put dst (goInt m.length)) w') : Oper.wp Try.prog { dst := dst, op := .call { callee := .builtin .copy, args := #[d, s], argTypes := #[26, 26] }, type := ty, pos := ps, after := af, guard := none } a w K Q := by
  by_cases h0 : m.length = 0
  · have hrun := run_copy_zero (P := Try.prog) w 26 26 ty 42 7 dp sp dLen dCap sLen sCap undPS infoPE7 (by omega)
    have e : m = [] := List.eq_nil_of_length_eq_zero h0
    subst e
    have q := h w (by simpa using hO) (World.grownBy.refl w _)
    unfold Oper.wp
    simp [execOp, resolve, invoke, builtin, hd, hs, hrun, Result.andThen]
    exact q
  · obtain ⟨rfl, b, f, rfl, h7⟩ := hpos (by omega)
    obtain ⟨cur, hg, hfi, hO'⟩ := hO.spliced k m hfit
    have hrun := run_copy_rows (P := Try.prog) w 26 26 ty 42 7 g (k * 7) dLen dCap ⟨b, f, none⟩ sLen sCap cur 42 (flat m) undPS infoPE7 hg (by rw [flat_length, hm]) (news_at h7) hfi (flat_one m)
    rw [← hm] at hrun
    have q := h _ hO' (grown_row _)
    unfold Oper.wp
    simp [execOp, resolve, invoke, builtin, hd, hs, hrun, Result.andThen]
    have q2 : K (a.put dst (goInt m.length)) (w.setRow g (List.take (k * 7) cur.toList ++ (flat m ++ List.drop (k * 7 + (flat m).length) cur.toList)).toArray) := by simpa using q
    exact q2
theorem Ow.nlt {w : World} {B g n cap : Nat} {l : List Pe} (h : Ow w B g n cap l) : g < w.heap.size := h.bl.2
def forg (k : Nat) (l : List Pe) : List Pe := l.take k ++ (l.drop (k + 1) ++ l.drop (k + (l.drop (k + 1)).length))
theorem forg_clear {k : Nat} {l : List Pe} (hk : k < l.length) : (forg k l).take (l.length - 1) ++ ([zeroP] ++ (forg k l).drop (l.length - 1 + 1)) = l.eraseIdx k ++ [zeroP] := by
  have e : forg k l = l.eraseIdx k ++ l.drop (l.length - 1) := by
    unfold forg
    rw [List.eraseIdx_eq_take_drop_succ, List.append_assoc, List.length_drop, show k + (l.length - (k + 1)) = l.length - 1 by omega]
  have z : (l.eraseIdx k).length = l.length - 1 := by rw [List.length_eraseIdx, if_pos hk]
  have z2 : (forg k l).length = l.length := by rw [e, List.length_append, z, List.length_drop]; omega
  rw [List.drop_eq_nil_of_le (by omega), e, List.take_left' z]
  simp
/-- A list with a free place. -/
def freeL (l : List Pe) : List Pe := (if l.length = 60 then l.eraseIdx (fi l) else l)
theorem freeL_len (l : List Pe) (hl : l.length ≤ 60) (hf : l.length = 60 → fi l < 60) : (freeL l).length = if l.length = 60 then 59 else l.length := by
  unfold freeL
  split
  case isTrue h => rw [List.length_eraseIdx, if_pos (by rw [h]; exact hf h), h]
  case isFalse h => rfl
end Go.Proofs.Ytoekhkolakielaa
