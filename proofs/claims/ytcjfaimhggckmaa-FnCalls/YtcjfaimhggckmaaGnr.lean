/-
  Whole stores in a region that draws its order; blocks under a source of choices.
-/
import Derived.Test.YtcjfaimhggckmaaSrcW
import Derived.Test.YtcjfaimhggckmaaHouseB
import Derived.Test.YtcjfaimhggckmaaFnd
import Derived.Deep.MidRow
namespace Go.Proofs.Ytcjfaimhggckmaa
open Go.RowKit Pl
set_option linter.unusedSimpArgs false
set_option linter.unusedVariables false

theorem ret_iG {a b : Int} (h : a = b) : Ending.returned (.int .i64 a) = .returned (.int .i64 b) := by rw [h]
theorem setCells_putBG (b : Nat) : ∀ (vs : List Value) (k : Nat) (W : World), W.setCells b k vs = putB W b k vs
  | [], _, _ => rfl
  | v :: vs, k, W => by
    rw [World.setCells]
    exact setCells_putBG b vs (k + 1) _
theorem wp_store_wholeG {op : Oper} {a : Act} {w : World} {K : Act → World → Prop} {Q : Exit → Act → World → Prop} {b : Nat} {us : List Value} (vs : List Value) (T : TypeId) (x y : Operand) (hi : (Try.prog.info? T).map (·.size) = some vs.toArray.size) (h1 : vs.toArray.all (·.oneCell') = true) (hB : Blk w b us) (hl : vs.length = us.length)
    (ho : op.op = .store T x y) (hx : a.eval x = .pointer (some ⟨b, 0, none⟩)) (hy : a.eval y = .agg vs.toArray) (h : K (a.put op.dst undef) (putB w b 0 vs)) : op.wp Try.prog a w K Q := by
  refine wp_store_mid T x y ho b 0 vs.toArray hx hy (fun j hj => ?_) hi h1 ?_
  · have hj' : j < us.length := by simpa [hl] using hj
    rw [Nat.zero_add]
    exact ⟨by rw [hB.c j us[j] (List.getElem?_eq_getElem hj')]; rfl, hB.f j hj'⟩
  · rw [List.toList_toArray, setCells_putBG]; exact h
theorem step_ofEG {P : Program} {ops : Array Oper} {o : Oper} {a : Act} {w : World} {K : Act → World → Prop} {Q : Exit → Act → World → Prop} {E : Prop} (hg : o.guard = none) (h : Oper.wp P o a w K Q) : if Region.wanted o (yielded ops a.tmps) = true then Oper.wp P o a w K Q else E := by
  rw [if_pos (by simp [Region.wanted, hg])]
  exact h
theorem Blk.keeps {W w : World} {b sb : Nat} {vs : List Value} (a : Blk W b vs) (hk : Keeps sb W w) (hne : b ≠ sb) : Blk w b vs := a.of (hk.block b a.lt hne)
theorem l2BentB_tG (sb B : Nat) (a : Option Addr) (len cap T : Nat) (w : World) (h : SrcT w sb B a len cap T) (hT : T ≤ 800000) :
    Calls Try.prog 35 #[.pointer (some ⟨sb, 0, none⟩)] w fun e w' => ∃ h : Hs, e = .returned (.agg #[.int .i64 h.fl, .int .i64 h.gp, .int .i64 h.ln, .int .i64 h.rf, .int .i64 h.sp, .int .i64 h.pu, .int .i64 h.br, .int .i64 h.dr, .int .i64 h.lv, .int .i64 h.dO, .int .i64 h.ld, .int .i64 h.qu]) ∧ ((0 ≤ h.ld ∧ h.ld ≤ 21) ∧ (1 ≤ h.fl ∧ h.fl ≤ 13)) ∧ SrcT w' sb B a len cap (T + 60) ∧ Keeps sb w w' := by
  obtain ⟨t, ht, h⟩ := h
  refine (l2BentB_src sb B a len cap t w h (by omega)).mono ?_
  rintro e w' ⟨v, t', he, ht', hs, hk, h1, h2⟩
  exact ⟨v, he, ⟨h1, h2⟩, ⟨_, by omega, hs⟩, hk⟩
theorem SrcT.rowG {w : World} {sb B : Nat} {a : Option Addr} {len cap T : Nat} (h : SrcT w sb B a len cap T) (b : Nat) (vs : Array Value) (hb : b ≠ sb) (hB : B ≤ b) : SrcT (w.setRow b vs) sb B a len cap T := by
  obtain ⟨t, ht, h⟩ := h
  refine ⟨t, ht, ?_⟩
  have hcell : ∀ (k o : Nat), k ≠ b → (w.setRow b vs).cell? ⟨k, o, none⟩ = w.cell? ⟨k, o, none⟩ := fun k o hk => World.cell?_of_block (w := w) (setRow_other w b k vs hk)
  exact ⟨by have := h.lt; simpa using this, h.hB, (hcell sb 0 (Ne.symm hb)).trans h.c0, (hcell sb 1 (Ne.symm hb)).trans h.c1, (World.frozen?_of_block (w := w) (setRow_other w b sb vs (Ne.symm hb))).trans h.fz, h.hc.keep fun c off hc _ => hcell c off (by omega)⟩
theorem Keeps.rowG {sb b : Nat} {a w : World} (h : Keeps sb a w) (hb : a.heap.size ≤ b) (vs : Array Value) : Keeps sb a (w.setRow b vs) :=
  ⟨h.os, h.tape, h.output, by simpa using h.size, fun i hi hn => (setRow_other w b i vs (by omega)).trans (h.block i hi hn)⟩
theorem SrcT.putBG {sb B : Nat} {a : Option Addr} {len cap T : Nat} {b : Nat} (hb : b ≠ sb) (hB : B ≤ b) : ∀ (vs : List Value) (k : Nat) {w : World}, SrcT w sb B a len cap T → SrcT (putB w b k vs) sb B a len cap T
  | [], _, _, h => h
  | v :: vs, k, _, h => SrcT.putBG hb hB vs (k + 1) (h.other b k v hb hB)
theorem Keeps.putBG {sb b : Nat} {a : World} (hb : a.heap.size ≤ b) : ∀ (vs : List Value) (k : Nat) {w : World}, Keeps sb a w → Keeps sb a (putB w b k vs)
  | [], _, _, h => h
  | v :: vs, k, _, h => Keeps.putBG hb vs (k + 1) (h.own hb _ _)
end Go.Proofs.Ytcjfaimhggckmaa
