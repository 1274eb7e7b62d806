/-
  The model's ledger: a call put to it.
-/
import Derived.Test.YtdkikijnjkoddaaGreatAdd7
import Derived.Test.YtdkikijnjkoddaaGreatPersK
import Derived.Deep.RegionHeld3
import Derived.BigGuardPart
import Derived.Laws.AppendOwnNone
import Derived.OwnWalk
namespace Go.Proofs.YtdkikijnjkoddaaGreat
open Go.RowKit Pl
set_option linter.unusedSimpArgs false
set_option linter.unusedVariables false

/-- 'append' of people to a row of one's own that isn't nil. -/
theorem wp_append_pe {w : World} {a : Act} {K : Act → World → Prop} {Q : Exit → Act → World → Prop} {s x : Operand} {dst : Option Tmp} {ty : TypeId} {ps : String} {af : Array Edge}
    (B g0 n0 c0 : Nat) (l m : List Pe) (hs : a.eval s = .slice (some ⟨g0, 0, none⟩) n0 c0) (hown : Own w B (.slice (some ⟨g0, 0, none⟩) n0 c0) l) (ad : Addr) (c : Nat) (hx : a.eval x = .slice (some ad) m.length c)
    (hm : 0 < m.length → ∃ b o, ad = ⟨b, o, none⟩ ∧ ∀ i p, m[i]? = some p → P7 w b (o + i * 7) p) (hlen : l.length + m.length ≤ 1000) (hB : B ≤ w.heap.size)
    (h : ∀ g' c' w', Own w' B (.slice (some ⟨g', 0, none⟩) (l ++ m).length c') (l ++ m) → w.grownBy w' (some g0) → K (a.put dst (.slice (some ⟨g', 0, none⟩) (l ++ m).length c')) w') :
    Oper.wp Tryz.prog { dst := dst, op := .call { callee := .builtin .append, args := #[s, x], argTypes := #[33, 33] }, type := ty, pos := ps, after := af, guard := none } a w K Q := by
  obtain ⟨i, hi, hz, hsz, hby⟩ := info_parts infoPE
  have hnews : ∀ j u, (flat m)[j]? = some u → w.cell? (ad.add j) = some u := by
    by_cases h0 : 0 < m.length
    · obtain ⟨b, o, rfl, h7⟩ := hm h0
      exact news_at h7
    · have e : m = [] := List.eq_nil_of_length_eq_zero (by omega)
      subst e
      intro j u hu
      simp [flat] at hu
  refine wp_append_own (P := Tryz.prog) w s x 33 rfl B 89 i (.agg (cells7 zeroP).toArray) 7 56 undPS hi hz hsz hby rfl (by omega) _ l.length (flat l) hs hown ad m.length c (flat m) hx (flat_length m) hnews (flat_one m) (by unfold maxLen; omega) (by omega) hB ?_
  intro v' w' ho hg hn
  have ho' : Own w' B v' (l ++ m) := by
    unfold Own
    rw [List.length_append, flat_append]
    exact ho
  rcases ho'.cases with ⟨e, _⟩ | ⟨g', c', e, _⟩
  · have q := (hn.1 e).1
    cases q
  · subst e
    exact h g' c' w' ho' hg
theorem gr_new {a c d : World} {row : Option Nat} {e : Nat} (h : a.grownBy c row) (k : c.grownBy d (some e)) (he : a.heap.size ≤ e) : a.grownBy d row :=
  ⟨k.os.trans h.os, k.tape.trans h.tape, k.output.trans h.output, Nat.le_trans h.size k.size, fun i hi hne => (k.block i (Nat.lt_of_lt_of_le hi h.size) (fun q => by have := Option.some.inj q; omega)).trans (h.block i hi hne)⟩
theorem act_done (p : Pe) : (!act p) = doneB p := by
  unfold act doneB
  cases a : (p.st == 0) <;> cases b : (p.st == 1) <;> simp [bne, a, b]
/-- The first that is done, from the k-th on. -/
def oldAt (l : List Pe) (k : Nat) : Int := if fi (l.drop k) < (l.drop k).length then ((k + fi (l.drop k) : Nat) : Int) else -1
theorem oldAt_zero (l : List Pe) : oldAt l 0 = fiR l := by
  unfold oldAt fiR
  rw [List.drop_zero, Nat.zero_add]
theorem oldAt_end (l : List Pe) : oldAt l l.length = -1 := by
  unfold oldAt
  rw [List.drop_length]
  rfl
theorem oldAt_step {l : List Pe} {i : Nat} {p : Pe} (h : l[i]? = some p) : oldAt l i = if doneB p = true then (i : Int) else oldAt l (i + 1) := by
  have hi : i < l.length := (List.getElem?_eq_some_iff.1 h).1
  have e : l[i] = p := (List.getElem?_eq_some_iff.1 h).2
  unfold oldAt
  rw [List.drop_eq_getElem_cons hi, e]
  cases k : doneB p
  · have q : fi (p :: l.drop (i + 1)) = fi (l.drop (i + 1)) + 1 := by
      show (if doneB p = true then 0 else fi (l.drop (i + 1)) + 1) = _
      rw [k]
      rfl
    rw [q, List.length_cons]
    simp only [Bool.false_eq_true, if_false]
    by_cases c : fi (l.drop (i + 1)) < (l.drop (i + 1)).length
    · rw [if_pos (by omega), if_pos c]
      omega
    · rw [if_neg (by omega), if_neg c]
  · have q : fi (p :: l.drop (i + 1)) = 0 := by
      show (if doneB p = true then 0 else fi (l.drop (i + 1)) + 1) = _
      rw [k]
      rfl
    rw [q, if_pos (by simp), if_pos rfl]
    rfl
theorem cut_from2 (b o k n cap : Nat) (z : Int) (hz : z = (k : Int)) (hk : k ≤ n) : ∃ ad : Addr, (k < cap → ad = ⟨b, o + k * 7, none⟩) ∧ ∀ w, (Instr.slice 33 (.slice (some ⟨b, o, none⟩) n cap) (some (.int .i64 z)) none none).run Tryz.prog w = .ok (.slice (some ad) (n - k) (cap - k)) w := by
  by_cases c : k < cap
  · obtain ⟨dp, h1, h2⟩ := cut_from b o k n cap z hz hk
    rw [h1 c] at h2
    exact ⟨_, fun _ => rfl, h2⟩
  · by_cases c2 : cap = k
    · refine ⟨⟨b, o, none⟩, fun q => absurd q c, fun w => ?_⟩
      obtain ⟨i, hi, h0, hs, hb⟩ := info_parts infoPE
      have he : Tryz.prog.elem 33 = 89 := by kernel_rfl
      have hu : Tryz.prog.underlying 33 = some (.slice (Tryz.prog.elem 33)) := by rw [he]; exact undPS
      have hsz : (sizeOf (Tryz.prog.elem 33)).run Tryz.prog w = .ok 7 w := by
        rw [he]
        simp [sizeOf, typeInfo, hi, hs]
      subst hz
      rw [run_slice_l _ _ _ _ _ hu .i64 (k : Int) (by omega) (by omega), hsz, Int.toNat_natCast]
      simp [Result.andThen, sliced, c2]
    · refine ⟨(⟨b, o, none⟩ : Addr).add (k * 7), fun q => absurd q c, fun w => ?_⟩
      obtain ⟨i, hi, h0, hs, hb⟩ := info_parts infoPE
      have he : Tryz.prog.elem 33 = 89 := by kernel_rfl
      have hu : Tryz.prog.underlying 33 = some (.slice (Tryz.prog.elem 33)) := by rw [he]; exact undPS
      have hsz : (sizeOf (Tryz.prog.elem 33)).run Tryz.prog w = .ok 7 w := by
        rw [he]
        simp [sizeOf, typeInfo, hi, hs]
      subst hz
      rw [run_slice_l _ _ _ _ _ hu .i64 (k : Int) (by omega) (by omega), hsz, Int.toNat_natCast]
      simp [Result.andThen, sliced, c2]
theorem cut_to (g k n cap : Nat) (hk : k ≤ cap) : ∀ w, (Instr.slice 33 (.slice (some ⟨g, 0, none⟩) n cap) none (some (.int .i64 (k : Int))) none).run Tryz.prog w = .ok (.slice (some ⟨g, 0, none⟩) k cap) w := by
  intro w
  obtain ⟨i, hi, h0, hs, hb⟩ := info_parts infoPE
  have he : Tryz.prog.elem 33 = 89 := by kernel_rfl
  have hu : Tryz.prog.underlying 33 = some (.slice (Tryz.prog.elem 33)) := by rw [he]; exact undPS
  have hsz : (sizeOf (Tryz.prog.elem 33)).run Tryz.prog w = .ok 7 w := by
    rw [he]
    simp [sizeOf, typeInfo, hi, hs]
  rw [run_slice_h _ _ _ _ _ hu .i64 (k : Int) (by omega) (by omega), hsz, Int.toNat_natCast]
  simp [Result.andThen, sliced, Addr.add]
theorem P7.grew {W w : World} {b o : Nat} {p : Pe} {row : Option Nat} (a : P7 W b o p) (hg : W.grownBy w row) (hne : some b ≠ row) : P7 w b o p := a.of (fun _ => World.cell?_of_block (w := W) (hg.block b a.lt hne))
theorem take_get {l : List Pe} {k i : Nat} {p : Pe} (h : (l.take k)[i]? = some p) : l[i]? = some p := by
  rw [List.getElem?_take] at h
  split at h
  · exact h
  · cases h
end Go.Proofs.YtdkikijnjkoddaaGreat
