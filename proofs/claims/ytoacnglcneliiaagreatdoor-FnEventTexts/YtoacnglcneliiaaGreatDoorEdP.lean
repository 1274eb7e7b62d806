/-
  What is held while events are drawn.
-/
import Derived.Test.YtoacnglcneliiaaGreatDoorDrawT
import Derived.Test.YtoacnglcneliiaaGreatDoorEvR
import Derived.Test.YtoacnglcneliiaaGreatDoorParF
namespace Go.Proofs.YtoacnglcneliiaaGreatDoor
open Go.RowKit Pl
set_option linter.unusedSimpArgs false
set_option linter.unusedVariables false

theorem OwnE.keeps {W w : World} {B sb : Nat} {v : Value} {l : List Ev} (h : OwnE W B v l) (hk : Keeps sb W w) (hne : sb < B) : OwnE w B v l := by
  have hlt := h.lt
  refine ⟨h.1, ?_⟩
  rcases h.2 with hn | ⟨g, cap, cur, rfl, hB, hg, rest⟩
  · exact Or.inl hn
  · exact Or.inr ⟨g, cap, cur, rfl, hB, (hk.block g (hlt g rfl).2 (by omega)).trans hg, rest⟩
theorem SrcT.belowL {W w : World} {sb B C : Nat} {a : Option Addr} {len cap T : Nat} (h : SrcT W sb B a len cap T) (hb : Below C W w) (hC : sb < C) : SrcT w sb B a len cap T := by
  obtain ⟨t, ht, h⟩ := h
  have hB := h.hB
  exact ⟨t, ht, Nat.lt_of_lt_of_le h.lt hb.size, h.hB, (hb.cell (p := ⟨sb, 0, none⟩) hC).trans h.c0, (hb.cell (p := ⟨sb, 1, none⟩) hC).trans h.c1, (hb.frozen (p := ⟨sb, 1, none⟩) hC).trans h.fz, h.hc.keep fun b off hlt _ => hb.cell (p := ⟨b, off, none⟩) (show b < C by omega)⟩
theorem Keeps.belowL {sb C : Nat} {a w w' : World} (h : Keeps sb a w) (hb : Below C w w') (hC : a.heap.size ≤ C) : Keeps sb a w' :=
  ⟨hb.os.trans h.os, hb.tape.trans h.tape, hb.output.trans h.output, Nat.le_trans h.size hb.size, fun i hi hn => (hb.block i (by omega)).trans (h.block i hi hn)⟩
/-- The house, the source, the row of events. -/
structure Ea (W w : World) (sb B : Nat) (a : Option Addr) (len cap T : Nat) (h : Hs) (v : Value) (l : List Ev) : Prop where
  f0 : Blk W w.heap.size [.int .i64 h.fl, .int .i64 h.gp, .int .i64 h.ln, .int .i64 h.rf, .int .i64 h.sp, .int .i64 h.pu, .int .i64 h.br, .int .i64 h.dr, .int .i64 h.lv, .int .i64 h.dO, .int .i64 h.ld, .int .i64 h.qu]
  fs : SrcT W sb B a len cap T
  fk : Keeps sb w W
  fo : OwnE W (w.heap.size + 1) v l
  ls : sb < w.heap.size
theorem Ea.keeps {W W' w : World} {sb B : Nat} {a : Option Addr} {len cap T U : Nat} {h : Hs} {v : Value} {l : List Ev} (E : Ea W w sb B a len cap T h v l) (hk : Keeps sb W W') (hs : SrcT W' sb B a len cap U) : Ea W' w sb B a len cap U h v l :=
  ⟨E.f0.of (hk.block _ E.f0.lt (by have := E.ls; omega)), hs, E.fk.trans hk, E.fo.keeps hk (by have := E.ls; omega), E.ls⟩
theorem Ea.below {W W' w : World} {sb B : Nat} {a : Option Addr} {len cap T : Nat} {h : Hs} {v : Value} {l : List Ev} (E : Ea W w sb B a len cap T h v l) (hb : Below W.heap.size W W') : Ea W' w sb B a len cap T h v l :=
  ⟨E.f0.below hb E.f0.lt, E.fs.below hb, Keeps.of_below E.fk hb, E.fo.below hb (fun k hk => (E.fo.lt k hk).2), E.ls⟩
theorem Ea.alloc {W w : World} {sb B : Nat} {a : Option Addr} {len cap T : Nat} {h : Hs} {v : Value} {l : List Ev} (E : Ea W w sb B a len cap T h v l) (o : Obj) : Ea (W.alloc o) w sb B a len cap T h v l :=
  E.below ((Below.refl _ _).alloc (Nat.le_refl _) o)
theorem Ea.more {W w : World} {sb B : Nat} {a : Option Addr} {len cap T U : Nat} {h : Hs} {v : Value} {l : List Ev} (E : Ea W w sb B a len cap T h v l) (hu : T ≤ U) : Ea W w sb B a len cap U h v l :=
  ⟨E.f0, E.fs.more hu, E.fk, E.fo, E.ls⟩
/-- .. and the event under way. -/
structure Ed (W w : World) (sb B : Nat) (a : Option Addr) (len cap T : Nat) (h : Hs) (v : Value) (l : List Ev) (eb : Nat) (vs : List Value) : Prop where
  ea : Ea W w sb B a len cap T h v l
  fe : Blk W eb vs
  lo : w.heap.size < eb
  up : ∀ k, v.ownBlock = some k → k < eb
theorem Ed.keeps {W W' w : World} {sb B : Nat} {a : Option Addr} {len cap T U : Nat} {h : Hs} {v : Value} {l : List Ev} {eb : Nat} {vs : List Value} (E : Ed W w sb B a len cap T h v l eb vs) (hk : Keeps sb W W') (hs : SrcT W' sb B a len cap U) : Ed W' w sb B a len cap U h v l eb vs :=
  ⟨E.ea.keeps hk hs, E.fe.of (hk.block _ E.fe.lt (by have := E.ea.ls; have := E.lo; omega)), E.lo, E.up⟩
theorem Ed.below {W W' w : World} {sb B : Nat} {a : Option Addr} {len cap T : Nat} {h : Hs} {v : Value} {l : List Ev} {eb : Nat} {vs : List Value} (E : Ed W w sb B a len cap T h v l eb vs) (hb : Below W.heap.size W W') : Ed W' w sb B a len cap T h v l eb vs :=
  ⟨E.ea.below hb, E.fe.below hb E.fe.lt, E.lo, E.up⟩
theorem Ed.alloc {W w : World} {sb B : Nat} {a : Option Addr} {len cap T : Nat} {h : Hs} {v : Value} {l : List Ev} {eb : Nat} {vs : List Value} (E : Ed W w sb B a len cap T h v l eb vs) (o : Obj) : Ed (W.alloc o) w sb B a len cap T h v l eb vs :=
  E.below ((Below.refl _ _).alloc (Nat.le_refl _) o)
theorem Ed.more {W w : World} {sb B : Nat} {a : Option Addr} {len cap T U : Nat} {h : Hs} {v : Value} {l : List Ev} {eb : Nat} {vs : List Value} (E : Ed W w sb B a len cap T h v l eb vs) (hu : T ≤ U) : Ed W w sb B a len cap U h v l eb vs :=
  ⟨E.ea.more hu, E.fe, E.lo, E.up⟩
theorem Ea.own {W w : World} {sb B : Nat} {a : Option Addr} {len cap T : Nat} {h : Hs} {v : Value} {l : List Ev} (E : Ea W w sb B a len cap T h v l) {b : Nat} (c : Nat) (x : Value) (hb : w.heap.size < b) (hne : v.ownBlock ≠ some b) : Ea (W.setCell ⟨b, c, none⟩ x) w sb B a len cap T h v l :=
  ⟨E.f0.other (by omega), E.fs.other b c x (by have := E.ls; omega) (by have := E.fs.hB; have := E.ls; omega), E.fk.own (Nat.le_of_lt hb) c x, E.fo.other (p := ⟨b, c, none⟩) hne x, E.ls⟩
theorem Ed.put {W w : World} {sb B : Nat} {a : Option Addr} {len cap T : Nat} {h : Hs} {v : Value} {l : List Ev} {eb : Nat} {vs : List Value} (E : Ed W w sb B a len cap T h v l eb vs) (c : Nat) (x : Value) (hc : c < vs.length) : Ed (W.setCell ⟨eb, c, none⟩ x) w sb B a len cap T h v l eb (vs.set c x) :=
  ⟨E.ea.own c x E.lo (fun e => by have := E.up eb e; omega), E.fe.set x hc, E.lo, E.up⟩
theorem Ea.ed {W w : World} {sb B : Nat} {a : Option Addr} {len cap T : Nat} {h : Hs} {v : Value} {l : List Ev} (E : Ea W w sb B a len cap T h v l) (cs : Array Value) (Ty : TypeId) : Ed (W.alloc (.cells cs Ty)) w sb B a len cap T h v l W.heap.size cs.toList :=
  ⟨E.alloc _, Blk.at_ W cs Ty _ rfl, E.f0.lt, fun k hk => (E.fo.lt k hk).2⟩
theorem Ea.ein {W w : World} {sb B : Nat} {a : Option Addr} {len cap T : Nat} {h : Hs} {va : Option Addr} {n c : Nat} {l : List Ev} (E : Ea W w sb B a len cap T h (.slice va n c) l) : EIn W W.heap.size va l := by
  obtain ⟨a', c', e, q⟩ := E.fo.pin
  injection e with e1 e2 e3
  subst e1
  exact q
theorem Ea.app {W W' w : World} {sb B : Nat} {a : Option Addr} {len cap T : Nat} {h : Hs} {v v1 : Value} {l L : List Ev} (E : Ea W w sb B a len cap T h v l) (hg : W.grownBy W' v.ownBlock) (ho : OwnE W' (w.heap.size + 1) v1 L) : Ea W' w sb B a len cap T h v1 L := by
  have hlt := E.fo.lt
  have hb : Below (w.heap.size + 1) W W' := (Below.refl _ _).grown hg E.f0.lt (fun j hj => (hlt j hj).1)
  have h0 := E.f0.lt
  have hls := E.ls
  refine ⟨E.f0.below hb (by omega), ?_, E.fk.belowL hb (by omega), ho, hls⟩
  exact E.fs.belowL hb (by omega)
/-- Two hundred and one empty events. -/
theorem mk201 : ∃ cs : Array Value, (∀ w : World, (Instr.makeSlice 26 (.int .i64 201) (.int .i64 201)).run Tryz.prog w = .ok (.slice (some ⟨w.heap.size, 0, none⟩) 201 201) (w.alloc (.cells cs 34))) ∧
    ∀ (w : World) (B : Nat), B ≤ w.heap.size → OwnE (w.alloc (.cells cs 34)) B (.slice (some ⟨w.heap.size, 0, none⟩) 201 201) (List.replicate 201 zeroE) := by
  refine ⟨madeCells (cellsE zeroE).toArray (201 * 5), fun w => ?_, fun w B hB => ?_⟩
  · obtain ⟨i, hi, hz, hs, hb⟩ := info_parts infoEV
    have r := run_make (P := Tryz.prog) w 26 34 i (.agg (cellsE zeroE).toArray) undEVS hi hz .i64 .i64 201 201 (by omega) (Int.le_refl _) (by rw [hb]; omega) (by omega)
    rw [hs] at r
    have e : (Value.agg (cellsE zeroE).toArray).cells = (cellsE zeroE).toArray := rfl
    rw [e] at r
    simpa using r
  · have a := World.ownsRow_lit (base := B) (e := 34) (size := 5) w (madeCells (cellsE zeroE).toArray (201 * 5)) 201 hB (by unfold maxLen; omega) (size_madeCells _ _)
    rw [made_flatE] at a
    unfold OwnE
    rw [List.length_replicate]
    exact a
theorem Ea.setE {W w : World} {sb B : Nat} {a : Option Addr} {len cap T : Nat} {h : Hs} {g c : Nat} {l : List Ev} (E : Ea W w sb B a len cap T h (.slice (some ⟨g, 0, none⟩) l.length c) l) {i k : Nat} {p q : Ev} {u : Value} (hp : l[i]? = some p) (hk : k < 5) (e : (cellsE p).set k u = cellsE q) :
    Ea (W.setCell ⟨g, i * 5 + k, none⟩ u) w sb B a len cap T h (.slice (some ⟨g, 0, none⟩) l.length c) (l.set i q) := by
  have hg := (E.fo.lt g rfl).1
  have hls := E.ls
  have hB := E.fs.hB
  exact ⟨E.f0.other (by omega), E.fs.other g _ u (by omega) (by omega), E.fk.own (by omega) _ u, (E.fo.ow.set hp hk e).own, hls⟩
theorem Ea.five {W w : World} {sb B : Nat} {a : Option Addr} {len cap T : Nat} {h : Hs} {g c : Nat} {l : List Ev} (E : Ea W w sb B a len cap T h (.slice (some ⟨g, 0, none⟩) l.length c) l) {i : Nat} {p : Ev} (hp : l[i]? = some p) : E5 W g (i * 5) p ∧ ∀ k, W.frozen? ⟨g, k, none⟩ = false :=
  ⟨E.fo.ow.e5 hp, fun k => E.fo.ow.fz k⟩
end Go.Proofs.YtoacnglcneliiaaGreatDoor
