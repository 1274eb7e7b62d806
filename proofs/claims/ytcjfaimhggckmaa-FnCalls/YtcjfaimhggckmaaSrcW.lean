/-
  A choice out of however many; a byte ahead of the bytes that came in (append in a region that draws its order).
-/
import Derived.Test.YtcjfaimhggckmaaDrawT
import Derived.Deep.RegionHeld3
import Derived.Laws.AppendOwnNone
import Derived.BigGuardPart
import Derived.BigQuiet
import Derived.Deep.QuietTactic
namespace Go.Proofs.Ytcjfaimhggckmaa
open Go.RowKit Pl
set_option linter.unusedSimpArgs false
set_option linter.unusedVariables false

set_option maxHeartbeats 1000000 in
theorem l1Next_anyW (sb : Nat) (a : Option Addr) (len cap t : Nat) (n : Int) (w : World) (hs0 : w.cell? ⟨sb, 0, none⟩ = some (.slice a len cap)) (hs1 : w.cell? ⟨sb, 1, none⟩ = some (.int .i64 t)) (hfz : w.frozen? ⟨sb, 1, none⟩ = false)
    (ht : t ≤ 1000000) (hn : 1 ≤ n) (hn2 : n ≤ 9223372036854775807) (B : Nat) (hB : B ≤ sb) (hc : CodeIn w B a len) :
    Calls Try.prog 36 #[.pointer (some ⟨sb, 0, none⟩), .int .i64 n] w fun e w' => ∃ (v k : Nat), e = .returned (.int .i64 v) ∧ (v : Int) < n ∧ w' = (w.setCell ⟨sb, 1, none⟩ (.int .i64 (t + 1))).drewN k := by
  have hnz : (n == 0) = false := by simp; omega
  obtain ⟨hl, hc⟩ := hc
  rcases hc with rfl | ⟨b, off, rfl, hlt, hc⟩
  · have hm := Int.emod_nonneg (↑t * 7) (b := n) (by omega)
    have hm' := Int.emod_lt_of_pos (↑t * 7) (b := n) (by omega)
    go_enter Try.func36, Try.ntmps36
    go_wp2
    go_ret
    exact ⟨(↑t * 7 % n).toNat, 0, ret_int (by omega), by omega, rfl⟩
  · have hne : b ≠ sb := by omega
    clear hlt
    by_cases hl0 : len = 0
    · subst hl0
      have hm := Int.emod_nonneg (↑t * 7) (b := n) (by omega)
      have hm' := Int.emod_lt_of_pos (↑t * 7) (b := n) (by omega)
      clear hc
      go_enter Try.func36, Try.ntmps36
      go_wp2
      go_ret
      exact ⟨(↑t * 7 % n).toNat, 0, ret_int (by omega), by omega, rfl⟩
    · obtain ⟨z0, c0, z01, z02⟩ := hc (t % len) (Nat.mod_lt _ (by omega))
      obtain ⟨z1, c1, z11, z12⟩ := hc ((t + 1) % len) (Nat.mod_lt _ (by omega))
      have hlz : ((len : Int) == 0) = false := by simp; omega
      have hlz' : (1 : Int) ≤ len := by omega
      have m0 : (0 : Int) ≤ (t : Int) % len := Int.emod_nonneg _ (by omega)
      have m0' : (t : Int) % len < len := Int.emod_lt_of_pos _ (by omega)
      have m1 : (0 : Int) ≤ ((t : Int) + 1) % len := Int.emod_nonneg _ (by omega)
      have m1' : ((t : Int) + 1) % len < len := Int.emod_lt_of_pos _ (by omega)
      have q0 : (0 : Int) ≤ (t : Int) / len := Int.ediv_nonneg (by omega) (by omega)
      have q1 : (t : Int) / len ≤ 1000000 := Int.ediv_le_of_le_mul (by omega) (by have : 1000000 * 1 ≤ 1000000 * (len : Int) := Int.mul_le_mul_of_nonneg_left hlz' (by omega); omega)
      clear hc
      by_cases hbig : 200 < n
      · go_enter Try.func36, Try.ntmps36
        go_wp2
        go_quiet (fail)
        go_wp2
        go_quiet (fail)
        go_wp2
        go_ret
        exact modEnd n _ hn _ _
      · go_enter Try.func36, Try.ntmps36
        go_wp2
        go_quiet (fail)
        go_wp2
        go_ret
        exact modEnd n _ hn _ _
theorem l1Next_tW (sb B : Nat) (a : Option Addr) (len cap T : Nat) (n : Int) (w : World) (h : SrcT w sb B a len cap T) (hT : T ≤ 1000000) (hn : 1 ≤ n) (hn2 : n ≤ 9223372036854775807) :
    Calls Try.prog 36 #[.pointer (some ⟨sb, 0, none⟩), .int .i64 n] w fun e w' => ∃ v : Nat, e = .returned (.int .i64 v) ∧ (v : Int) < n ∧ SrcT w' sb B a len cap (T + 1) ∧ Keeps sb w w' := by
  obtain ⟨t, ht, h⟩ := h
  refine (l1Next_anyW sb a len cap t n w h.c0 h.c1 h.fz (by omega) hn hn2 B h.hB h.hc).mono ?_
  rintro e w' ⟨v, k, he, hv, rfl⟩
  exact ⟨v, he, hv, ⟨t + 1, by omega, h.store.drewN k⟩, ((Keeps.refl _ _).store _ _).drewN k⟩
theorem und8W : Try.prog.underlying 22 = some (.slice 5) := by kernel_rfl
theorem info8W : (Try.prog.info? 5).map (fun i => (i.zero, i.size, i.bytes)) = some (some (.int .u8 0), 1, 1) := by kernel_rfl
theorem addr_addW (b off i : Nat) : Addr.add ⟨b, off, none⟩ i = ⟨b, off + i, none⟩ := by unfold Addr.add; split <;> simp_all
theorem code_vals {w : World} {b off : Nat} (n : Nat) (h : ∀ i, i < n → ∃ z : Int, w.cell? ⟨b, off + i, none⟩ = some (.int .u8 z) ∧ 0 ≤ z ∧ z ≤ 255) :
    ∃ zs : List Int, zs.length = n ∧ (∀ z ∈ zs, 0 ≤ z ∧ z ≤ 255) ∧ ∀ (j : Nat) (u : Value), (zs.map (Value.int .u8))[j]? = some u → w.cell? (Addr.add ⟨b, off, none⟩ j) = some u := by
  induction n with
  | zero => exact ⟨[], rfl, by simp, by simp⟩
  | succ n ih =>
    obtain ⟨zs, hl, hz, hc⟩ := ih (fun i hi => h i (by omega))
    obtain ⟨z, hz1, hz2, hz3⟩ := h n (by omega)
    refine ⟨zs ++ [z], by simp [hl], ?_, fun j u hj => ?_⟩
    · intro y hy
      rcases List.mem_append.1 hy with hy | hy
      · exact hz y hy
      · rw [List.mem_singleton.1 hy]; exact ⟨hz2, hz3⟩
    · rw [List.map_append] at hj
      by_cases hjn : j < n
      · rw [List.getElem?_append_left (by simp [hl]; exact hjn)] at hj
        exact hc j u hj
      · rw [List.getElem?_append_right (by simp [hl]; omega)] at hj
        have h0 : j - (zs.map (Value.int .u8)).length = 0 := by
          have := (List.getElem?_eq_some_iff.1 hj).1
          simp at this ⊢; omega
        have hjn2 : j = n := by simp [hl] at h0; omega
        rw [h0] at hj
        subst hjn2
        have e : u = .int .u8 z := by simpa using hj.symm
        rw [e, addr_addW]; exact hz1
theorem code_of_row {w : World} {B : Nat} {v : Value} {n : Nat} {zs : List Int} (h : w.ownsRow B 5 1 v n (zs.map (Value.int .u8))) (hz : ∀ z ∈ zs, 0 ≤ z ∧ z ≤ 255) (hn : n ≤ 2000000) (hn0 : 0 < n) :
    ∃ g cap, v = .slice (some ⟨g, 0, none⟩) n cap ∧ CodeIn w w.heap.size (some ⟨g, 0, none⟩) n := by
  rcases h.2 with ⟨_, h0⟩ | ⟨g, cap, cur, e, hB, hg, rest⟩
  · omega
  · subst e
    have lt := (h.lt g rfl).2
    have hl : zs.length = n := by have := h.1; simpa using this
    refine ⟨g, cap, rfl, hn, Or.inr ⟨g, 0, rfl, lt, fun i hi => ?_⟩⟩
    have hi2 : i < zs.length := by omega
    have hc := h.cells (g := g) rfl i (.int .u8 zs[i]) (by rw [List.getElem?_map, List.getElem?_eq_getElem hi2]; rfl)
    rw [addr_addW] at hc
    exact ⟨zs[i], hc, hz _ (List.getElem_mem hi2)⟩
/-- A byte in a block of its own. -/
structure U1 (w : World) (b : Nat) (z : Int) : Prop where
  o : w.heap[b]? = some (.cells #[.int .u8 z] 5 (0, 0))
theorem U1.lt {w : World} {b : Nat} {z : Int} (a : U1 w b z) : b < w.heap.size := (Array.getElem?_eq_some_iff.1 a.o).1
theorem U1.below {W w : World} {b B : Nat} {z : Int} (a : U1 W b z) (hb : Below B W w) (hB : b < B) : U1 w b z := ⟨(hb.block b hB).trans a.o⟩
theorem U1.alloc {W : World} {b : Nat} {z : Int} (a : U1 W b z) (ob : Obj) : U1 (W.alloc ob) b z := ⟨(Below.heap_alloc W ob b a.lt).trans a.o⟩
theorem U1.new (w : World) (z : Int) (b : Nat) (hb : b = w.heap.size) : U1 (w.alloc (.cells #[.int .u8 z] 5)) b z := by
  subst hb
  exact ⟨heap_alloc_new w _⟩
theorem U1.row {w : World} {b B : Nat} {z : Int} (a : U1 w b z) (hB : B ≤ b) : w.ownsRow B 5 1 (.slice (some ⟨b, 0, none⟩) 1 1) 1 [.int .u8 z] :=
  ⟨rfl, .inr ⟨b, 1, _, rfl, hB, a.o, Nat.le_refl _, by unfold maxLen; omega, rfl, rfl⟩⟩
theorem grown_refl (w : World) (row : Option Nat) : w.grownBy w row := ⟨rfl, rfl, rfl, Nat.le_refl _, fun _ _ _ => rfl⟩
theorem wp_append_codeW {o : Oper} {act : Act} {K : Act → World → Prop} {Q : Exit → Act → World → Prop} {W : World} {B : Nat} {a : Option Addr} {len cap : Nat} (hc : CodeIn W B a len) (hl : len ≤ 1048576) (hz : a = none → len = 0 ∧ cap = 0) (z : Int) (z1 : 0 ≤ z) (z2 : z ≤ 255) (lb : Nat) (hU : U1 W lb z) (s x : Operand)
    (ho : o.op = .call { callee := .builtin .append, args := #[s, x], argTypes := #[22, 22] })
    (hs : act.eval s = .slice (some ⟨lb, 0, none⟩) 1 1) (hx : act.eval x = .slice a len cap)
    (h : ∀ g cap' w', CodeIn w' w'.heap.size (some ⟨g, 0, none⟩) (1 + len) → W.grownBy w' (some lb) → K (act.put o.dst (.slice (some ⟨g, 0, none⟩) (1 + len) cap')) w') : o.wp Try.prog act W K Q := by
  obtain ⟨i, hi, h0, h1, h2⟩ := info_parts info8W
  have fin : ∀ (zs : List Int) (v' : Value) (w' : World), (∀ y ∈ zs, 0 ≤ y ∧ y ≤ 255) → w'.ownsRow lb 5 1 v' (1 + len) ((z :: zs).map (Value.int .u8)) → W.grownBy w' (some lb) → K (act.put o.dst v') w' := by
    intro zs v' w' hzs how hg
    obtain ⟨g, cap', e, hcode⟩ := code_of_row how (by intro y hy; rcases List.mem_cons.1 hy with e | e; (· rw [e]; exact ⟨z1, z2⟩); (· exact hzs y e)) (by omega) (by omega)
    subst e
    exact h g cap' w' hcode hg
  cases a with
  | none =>
    obtain ⟨e1, e2⟩ := hz rfl
    subst e1 e2
    have hrun := run_append_owned_none (P := Try.prog) (w := W) lb 22 o.type 5 i 1 und8W hi _ 1 [.int .u8 z] (hU.row (Nat.le_refl _))
    unfold Oper.wp
    simp [execOp, ho, resolve, invoke, builtin, hs, hx, hrun, Result.andThen]
    exact fin [] _ _ (by simp) (hU.row (Nat.le_refl _)) (grown_refl _ _)
  | some ad =>
    obtain ⟨zs, hzl, hzb, hzc⟩ : ∃ zs : List Int, zs.length = len ∧ (∀ y ∈ zs, 0 ≤ y ∧ y ≤ 255) ∧ ∀ (j : Nat) (u : Value), (zs.map (Value.int .u8))[j]? = some u → W.cell? (ad.add j) = some u := by
      rcases hc.2 with e | ⟨b, off, e, hb, hall⟩
      · exact ⟨[], e.symm, by simp, by simp⟩
      · have e := Option.some.inj e
        subst e
        exact code_vals len hall
    refine wp_append_own _ s x 22 ho lb 5 i (.int .u8 0) 1 1 und8W hi h0 h1 h2 rfl (by omega) _ 1 [.int .u8 z] hs (hU.row (Nat.le_refl _)) ad len cap (zs.map (Value.int .u8)) hx (by simp [hzl]) hzc (by intro u hu; obtain ⟨y, _, rfl⟩ := List.mem_map.1 hu; rfl) (by unfold maxLen; omega) (by omega) (Nat.le_of_lt hU.lt) ?_
    intro v' w' how hg _
    exact fin zs v' w' hzb how hg
end Go.Proofs.Ytcjfaimhggckmaa
