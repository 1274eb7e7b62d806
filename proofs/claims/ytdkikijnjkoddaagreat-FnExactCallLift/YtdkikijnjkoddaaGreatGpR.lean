/-
  The base of what follows: plain numbers, cells, contracts of the smallest functions.
-/
import Derived.Test.YtdkikijnjkoddaaGreatGrpF
import Derived.Laws.AppendOwnNone
/-
  A group as an answer: its two rows are its own; decks that are put behind a row.
-/
namespace Go.Proofs.YtdkikijnjkoddaaGreat
open Go.RowKit Pl
set_option linter.unusedSimpArgs false
set_option linter.unusedVariables false

def rvs (kc id : Int) (h : Hs) (dv : Value) (nx : Int) (pv : Value) (tk : Int) (rc : Bool) : List Value := [.int .i64 kc, .int .i64 id, .int .i64 h.fl, .int .i64 h.gp, .int .i64 h.ln, .int .i64 h.rf, .int .i64 h.sp, .int .i64 h.pu, .int .i64 h.br, .int .i64 h.dr, .int .i64 h.lv, .int .i64 h.dO, .int .i64 h.ld, .int .i64 h.qu, dv, .int .i64 nx, pv, .int .i64 tk, .bool rc]
/-- What is answered: the code, the number, the group; its rows lie in blocks of their own. -/
def isGrp (w : World) (kc id : Int) (h : Hs) (ds : List Dk) (nx : Int) (ps : List Pe) (tk : Int) (rc : Bool) (e : Ending) (w' : World) : Prop :=
  ∃ da dc pa pc, e = .returned (.agg #[.int .i64 kc, .int .i64 id, .int .i64 h.fl, .int .i64 h.gp, .int .i64 h.ln, .int .i64 h.rf, .int .i64 h.sp, .int .i64 h.pu, .int .i64 h.br, .int .i64 h.dr, .int .i64 h.lv, .int .i64 h.dO, .int .i64 h.ld, .int .i64 h.qu, .slice da ds.length dc, .int .i64 nx, .slice pa ps.length pc, .int .i64 tk, .bool rc]) ∧ OwnD w' w.heap.size (.slice da ds.length dc) ds ∧ Own w' w.heap.size (.slice pa ps.length pc) ps ∧ (∀ j, (Value.slice da ds.length dc).ownBlock = some j → (Value.slice pa ps.length pc).ownBlock ≠ some j) ∧ Below w.heap.size w w'
theorem own_nilP (w : World) (B : Nat) : Own w B (.slice none 0 0) [] := World.ownsRow_nil w B _ 7
theorem own_nilD (w : World) (B : Nat) : OwnD w B (.slice none 0 0) [] := World.ownsRow_nil w B _ 13
/-- With a code all else is zero. -/
theorem isGrp.no {w w' : World} {k : Int} (hb : Below w.heap.size w w') : isGrp w k 0 zeroH [] 0 [] 0 false (.returned (.agg #[.int .i64 k, .int .i64 0, .int .i64 0, .int .i64 0, .int .i64 0, .int .i64 0, .int .i64 0, .int .i64 0, .int .i64 0, .int .i64 0, .int .i64 0, .int .i64 0, .int .i64 0, .int .i64 0, .slice none 0 0, .int .i64 0, .slice none 0 0, .int .i64 0, .bool false])) w' :=
  ⟨none, 0, none, 0, rfl, own_nilD _ _, own_nilP _ _, (fun _ e => by cases e), hb⟩
theorem below_grown {B : Nat} {a w w' : World} {row : Option Nat} (h : Below B a w) (k : w.grownBy w' row) (hr : ∀ j, row = some j → B ≤ j) (hB : B ≤ w.heap.size) : Below B a w' :=
  ⟨k.os.trans h.os, k.tape.trans h.tape, k.output.trans h.output, Nat.le_trans h.size k.size, fun i hi => (k.block i (by omega) (fun e => absurd (hr i e.symm) (by omega))).trans (h.block i hi)⟩
theorem news_atD {w : World} {b o : Nat} {l : List Dk} (h : ∀ i p, l[i]? = some p → D13 w b (o + i * 13) p) : ∀ j u, (flatD l)[j]? = some u → w.cell? ((⟨b, o, none⟩ : Addr).add j) = some u := by
  intro j u hu
  have hj : j < l.length * 13 := by
    rw [← flatD_length]
    exact (List.getElem?_eq_some_iff.1 hu).1
  have e : j = j / 13 * 13 + j % 13 := by omega
  have h3 : j % 13 < 13 := Nat.mod_lt _ (by omega)
  obtain ⟨p, hp⟩ : ∃ p, l[j / 13]? = some p := ⟨_, List.getElem?_eq_getElem (by omega)⟩
  have h2 := flatD_get hp h3
  rw [← e, hu] at h2
  obtain ⟨c0, c1, c2, c3, c4, c5, c6, c7, c8, c9, c10, c11, c12⟩ := h (j / 13) p hp
  have ea : (⟨b, o, none⟩ : Addr).add j = ⟨b, o + j, none⟩ := by simp [Addr.add]
  rw [ea]
  have ej : o + j = o + j / 13 * 13 + j % 13 := by omega
  rw [ej, h2]
  have : j % 13 = 0 ∨ j % 13 = 1 ∨ j % 13 = 2 ∨ j % 13 = 3 ∨ j % 13 = 4 ∨ j % 13 = 5 ∨ j % 13 = 6 ∨ j % 13 = 7 ∨ j % 13 = 8 ∨ j % 13 = 9 ∨ j % 13 = 10 ∨ j % 13 = 11 ∨ j % 13 = 12 := by omega
  rcases this with q | q | q | q | q | q | q | q | q | q | q | q | q <;> rw [q]
  · exact c0
  · exact c1
  · exact c2
  · exact c3
  · exact c4
  · exact c5
  · exact c6
  · exact c7
  · exact c8
  · exact c9
  · exact c10
  · exact c11
  · exact c12
/-- 'append' of decks to a row of one's own, nil or not. -/
theorem wp_append_dk {w : World} {a : Act} {K : Act → World → Prop} {Q : Exit → Act → World → Prop} {s x : Operand} {dst : Option Tmp} {ty : TypeId} {ps : String} {af : Array Edge}
    (B : Nat) (v : Value) (l m L : List Dk) (N : Nat) (hL : l ++ m = L) (hN : L.length = N) (hs : a.eval s = v) (hown : OwnD w B v l) (b o c : Nat) (hx : a.eval x = .slice (some ⟨b, o, none⟩) m.length c)
    (hm : ∀ i p, m[i]? = some p → D13 w b (o + i * 13) p) (hn : v ≠ .slice none 0 0 ∨ 0 < m.length) (hlen : l.length + m.length ≤ 2097152) (hB : B ≤ w.heap.size)
    (h : ∀ g' c' w', OwnD w' B (.slice (some ⟨g', 0, none⟩) N c') L → w.grownBy w' v.ownBlock → K (a.put dst (.slice (some ⟨g', 0, none⟩) N c')) w') :
    Oper.wp Tryz.prog { dst := dst, op := .call { callee := .builtin .append, args := #[s, x], argTypes := #[32, 32] }, type := ty, pos := ps, after := af, guard := none } a w K Q := by
  subst hL hN
  obtain ⟨i, hi, hz, hsz, hby⟩ := info_parts infoDK
  refine wp_append_own (P := Tryz.prog) w s x 32 rfl B 82 i (.agg (cellsD zeroD).toArray) 13 104 undDS hi hz hsz hby rfl (by omega) _ l.length (flatD l) hs hown ⟨b, o, none⟩ m.length c (flatD m) hx (flatD_length m) (news_atD hm) (flatD_one m) (by unfold maxLen; omega) (by omega) hB ?_
  intro v' w' ho hg hk
  have ho' : OwnD w' B v' (l ++ m) := by
    unfold OwnD
    rw [List.length_append, flatD_append]
    exact ho
  rcases ho'.cases with ⟨e, _⟩ | ⟨g', c', e, _⟩
  · obtain ⟨q1, q2⟩ := hk.1 e
    rcases hn with q | q
    · exact absurd q1 q
    · omega
  · subst e
    exact h g' c' w' ho' hg
end Go.Proofs.YtdkikijnjkoddaaGreat

/-
  Blocks and rows behind a mark of two other rows.
-/
namespace Go.Proofs.YtdkikijnjkoddaaGreat
open Go.RowKit Pl
set_option linter.unusedSimpArgs false
set_option linter.unusedVariables false

theorem OwnD.of {W w : World} {B : Nat} {v : Value} {l : List Dk} (h : OwnD W B v l) (hb : ∀ k, v.ownBlock = some k → w.heap[k]? = W.heap[k]?) : OwnD w B v l := by
  refine ⟨h.1, ?_⟩
  rcases h.2 with hn | ⟨g, cap, cur, rfl, hB, hg, rest⟩
  · exact Or.inl hn
  · exact Or.inr ⟨g, cap, cur, rfl, hB, (hb g rfl).trans hg, rest⟩
theorem Own.of {W w : World} {B : Nat} {v : Value} {l : List Pe} (h : Own W B v l) (hb : ∀ k, v.ownBlock = some k → w.heap[k]? = W.heap[k]?) : Own w B v l := by
  refine ⟨h.1, ?_⟩
  rcases h.2 with hn | ⟨g, cap, cur, rfl, hB, hg, rest⟩
  · exact Or.inl hn
  · exact Or.inr ⟨g, cap, cur, rfl, hB, (hb g rfl).trans hg, rest⟩
theorem Blk.turn {W w : World} {b : Nat} {vs : List Value} {u v : Value} (a : Blk W b vs) (t : Turn2 W w u v) (hu : u.ownBlock ≠ some b) (hv : v.ownBlock ≠ some b) : Blk w b vs := a.of (t.block b a.lt (fun e => hu e.symm) (fun e => hv e.symm))
theorem OwnD.turn {W w : World} {B : Nat} {x u v : Value} {l : List Dk} (h : OwnD W B x l) (t : Turn2 W w u v) (hu : ∀ k, x.ownBlock = some k → u.ownBlock ≠ some k) (hv : ∀ k, x.ownBlock = some k → v.ownBlock ≠ some k) : OwnD w B x l :=
  h.of (fun k hk => t.block k (h.lt k hk).2 (fun e => hu k hk e.symm) (fun e => hv k hk e.symm))
theorem Own.turn {W w : World} {B : Nat} {x u v : Value} {l : List Pe} (h : Own W B x l) (t : Turn2 W w u v) (hu : ∀ k, x.ownBlock = some k → u.ownBlock ≠ some k) (hv : ∀ k, x.ownBlock = some k → v.ownBlock ≠ some k) : Own w B x l :=
  h.of (fun k hk => t.block k (h.lt k hk).2 (fun e => hu k hk e.symm) (fun e => hv k hk e.symm))
/-- An own slice can be read. -/
theorem OwnD.din {w : World} {B n c : Nat} {a : Option Addr} {l : List Dk} (h : OwnD w B (.slice a n c) l) : DIn w w.heap.size a l := by
  obtain ⟨a', c', e, hd⟩ := h.pin
  injection e with e1
  subst e1
  exact hd
theorem Own.din {w : World} {B n c : Nat} {a : Option Addr} {l : List Pe} (h : Own w B (.slice a n c) l) : PIn w w.heap.size a l := by
  rcases h.cases with ⟨e, hl⟩ | ⟨g, cap, e, hB, hg, _⟩
  · subst hl
    injection e with e1
    subst e1
    exact Or.inl rfl
  · injection e with e1 e2 e3
    subst e1 e2 e3
    refine Or.inr ⟨g, 0, rfl, hg, fun i p hp => ?_⟩
    rw [Nat.zero_add]
    exact (Own.ow h).p7 hp
theorem Own.base' {w : World} {B C : Nat} {v : Value} {l : List Pe} (h : Own w B v l) (hC : C ≤ B) : Own w C v l := by
  refine ⟨h.1, ?_⟩
  rcases h.2 with hn | ⟨g, cap, cur, e, hB, rest⟩
  · exact Or.inl hn
  · exact Or.inr ⟨g, cap, cur, e, Nat.le_trans hC hB, rest⟩
theorem Turn2.below' {B : Nat} {a w w' : World} {u v : Value} (k : Turn2 w w' u v) (h : Below B a w) (hu : ∀ j, u.ownBlock = some j → B ≤ j) (hv : ∀ j, v.ownBlock = some j → B ≤ j) (hB : B ≤ w.heap.size := by omega) : Below B a w' := Turn2.below h k hu hv hB
theorem load_blkg {ops : Array Oper} {rest : List Oper} {o : Oper} {act : Act} {w : World} {Q : Exit → Act → World → Prop} {b : Nat} {vs : List Value} (T : TypeId) (x : Operand) {fs : Array Field} (hu : Tryz.prog.underlying T = some (.struct fs)) (hi : (Tryz.prog.info? T).map (·.size) = some vs.toArray.size) (hB : Blk w b vs)
    (hw : Region.wanted o (yielded ops act.tmps) = true) (ho : o.op = .load T x) (hx : act.eval x = .pointer (some ⟨b, 0, none⟩)) (h : wpList Tryz.prog ops Q rest (act.put o.dst (.agg vs.toArray)) w) : wpList Tryz.prog ops Q (o :: rest) act w := by
  obtain ⟨T', h'⟩ := hB.o
  exact wpList_step fun K hK => by simp only [hw, if_true]; exact wp_load_row T x ho b hx T' vs.toArray (0, 0) (.struct fs) h' hu rfl hi (hK _ _ h)
end Go.Proofs.YtdkikijnjkoddaaGreat
