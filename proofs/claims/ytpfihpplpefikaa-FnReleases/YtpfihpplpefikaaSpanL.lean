/-
  A map of spans of one floor: who holds which floor.
-/
import Derived.Test.YtpfihpplpefikaaCellsN
import Derived.Maps.RangeWalk
import Derived.DeepKeys4
namespace Go.Proofs.Ytpfihpplpefikaa
open Go.RowKit Pl Go.Maps
set_option linter.unusedSimpArgs false
set_option linter.unusedVariables false

/-- A span's cells, told as a key. -/
def key2 (a b : Int) : Lit := .string (keyBytes [.int .i64 a, .int .i64 b])
theorem undI : Try.prog.underlying 2 = some (.int .i64) := by kernel_rfl
theorem undT : Try.prog.underlying 65 = some (.map 27 2) := by kernel_rfl
theorem laidOut : laidOutB Try.prog = true := by kernel_rfl
theorem rowM : (27 : TypeId) < Try.prog.types.size := of_decide_eq_true (by kernel_rfl)
theorem wideM : (match Try.prog.underlying 27 with | some (.array _ _) | some (.struct _) => true | _ => false) = true := by kernel_rfl
theorem lawM : Keyed Try.prog 27 := Keyed.of_law (deep_law_laid laidOut (m := 3) (by omega) rowM (by kernel_rfl) wideM)
theorem keyTy : Try.prog.keyType 27 = true := by kernel_rfl
theorem cellsM : Try.prog.cellsOf 27 = 2 := by kernel_rfl
theorem cellsI : Try.prog.cellsOf 2 = 1 := by kernel_rfl
/-- A span has two fields, of a number each. -/
theorem undM : ∃ f g : Field, Try.prog.underlying 27 = some (.struct #[f, g]) ∧ f.type = 2 ∧ g.type = 2 ∧ f.offset = 0 ∧ g.offset = 1 ∧ (f.name != "_") = true ∧ (g.name != "_") = true := by
  have e : ∀ o : Option TypeDesc, (match o with | some (.struct fs) => (match fs.toList with | [f, g] => f.type == 2 && (g.type == 2 && (f.offset == 0 && (g.offset == 1 && (f.name != "_" && g.name != "_")))) | _ => false) | _ => false) = true →
      ∃ f g : Field, o = some (.struct #[f, g]) ∧ f.type = 2 ∧ g.type = 2 ∧ f.offset = 0 ∧ g.offset = 1 ∧ (f.name != "_") = true ∧ (g.name != "_") = true := by
    intro o h
    split at h
    · rename_i fs
      split at h
      · rename_i f g hl
        simp only [Bool.and_eq_true, beq_iff_eq] at h
        refine ⟨f, g, ?_, h.1, h.2.1, h.2.2.1, h.2.2.2.1, h.2.2.2.2.1, h.2.2.2.2.2⟩
        have : fs = #[f, g] := by
          apply Array.ext'
          rw [hl]
        rw [this]
      · cases h
    · cases h
  exact e _ (by kernel_rfl)
theorem typesPos : ∃ m, Try.prog.types.size = m + 1 := by
  have h : 0 < Try.prog.types.size := Nat.lt_of_le_of_lt (Nat.zero_le _) rowM
  exact ⟨_, (Nat.succ_pred_eq_of_pos h).symm⟩
theorem lits_two (k : Nat) (x y : Value) : Try.prog.keyLits (k + 1) 27 [x, y] = (Try.prog.keyLits k 2 [x]).bind fun p => (Try.prog.keyLits k 2 [y]).bind fun q => some (p ++ q) := by
  obtain ⟨f, g, hu, t1, t2, o1, o2, n1, n2⟩ := undM
  simp only [Program.keyLits, hu]
  rw [if_pos ⟨by rw [cellsM]; rfl, by simp [n1, n2]⟩]
  generalize hA : Try.prog.keyLits k 2 [x] = A
  generalize hB : Try.prog.keyLits k 2 [y] = B
  have e1 : Try.prog.keyLits k f.type (List.take (Try.prog.cellsOf f.type) (List.drop f.offset [x, y])) = A := by rw [t1, o1, cellsI]; exact hA
  have e2 : Try.prog.keyLits k g.type (List.take (Try.prog.cellsOf g.type) (List.drop g.offset [x, y])) = B := by rw [t2, o2, cellsI]; exact hB
  simp only [List.mapM_cons, List.mapM_nil, e1, e2]
  cases A <;> cases B <;> simp
theorem keyOf_span {a b : Int} (ha : (Lit.int .i64 a).wf = true) (hb : (Lit.int .i64 b).wf = true) : keyOf Try.prog 27 (.agg #[.int .i64 a, .int .i64 b]) = some (key2 a b) := by
  obtain ⟨f, g, hu, t1, t2, o1, o2, n1, n2⟩ := undM
  obtain ⟨m, hm⟩ := typesPos
  have hI : ∀ x : Int, (Lit.int .i64 x).wf = true → Try.prog.keyLits (m + 1) 2 [.int .i64 x] = some [.int .i64 x] := by
    intro x hx
    simp [Program.keyLits, undI, hx]
  have hk : Try.prog.keyLits (m + 1 + 1) 27 [.int .i64 a, .int .i64 b] = some [.int .i64 a, .int .i64 b] := by
    rw [lits_two, hI a ha, hI b hb]
    rfl
  have hl : (Value.agg #[Value.int .i64 a, Value.int .i64 b]).cells.toList = [.int .i64 a, .int .i64 b] := rfl
  have hf : (Value.agg #[Value.int .i64 a, Value.int .i64 b]).formed Try.prog 27 = true := by
    unfold Value.formed
    rw [hu, cellsM]
    rfl
  unfold keyOf
  rw [hu]
  dsimp only
  rw [if_pos (by rw [keyTy, hf]; rfl), hm, hl, hk]
  rfl
theorem keyOf_span_inv {v : Value} {kl : Lit} (h : keyOf Try.prog 27 v = some kl) : ∃ a b, v = .agg #[.int .i64 a, .int .i64 b] ∧ kl = key2 a b ∧ (Lit.int .i64 a).wf = true ∧ (Lit.int .i64 b).wf = true := by
  obtain ⟨f, g, hu, t1, t2, o1, o2, n1, n2⟩ := undM
  obtain ⟨m, hm⟩ := typesPos
  have hI : ∀ (x : Value) (l : List Lit), Try.prog.keyLits (m + 1) 2 [x] = some l → ∃ a, x = .int .i64 a ∧ l = [.int .i64 a] ∧ (Lit.int .i64 a).wf = true := by
    intro x l hx
    have hk := hx
    obtain ⟨a, e1, e2⟩ := keyLits_int' undI hx
    simp only [List.cons.injEq, and_true] at e1
    subst e1
    refine ⟨a, rfl, e2, ?_⟩
    simp only [Program.keyLits, undI] at hk
    split at hk
    · rename_i q; exact q.2
    · cases hk
  unfold keyOf at h
  rw [hu] at h
  dsimp only at h
  split at h
  · rename_i q
    rw [keyTy, Bool.true_and] at q
    cases v with
    | agg cs =>
      unfold Value.formed at q
      rw [hu, cellsM] at q
      have hs : cs.size = 2 := by simpa using q
      obtain ⟨x, y, rfl⟩ : ∃ x y, cs = #[x, y] := by
        refine ⟨cs[0], cs[1], ?_⟩
        apply Array.ext
        · simp [hs]
        · intro i h1 h2
          have : i = 0 ∨ i = 1 := by simp at h2; omega
          rcases this with rfl | rfl <;> simp
      rw [hm] at h
      have hl : (Value.agg #[x, y]).cells.toList = [x, y] := rfl
      rw [hl] at h
      have hk := lits_two (m + 1) x y
      rw [hk] at h
      cases e1 : Try.prog.keyLits (m + 1) 2 [x] with
      | none => rw [e1] at h; cases h
      | some p =>
        cases e2 : Try.prog.keyLits (m + 1) 2 [y] with
        | none => rw [e1, e2] at h; cases h
        | some p2 =>
          rw [e1, e2] at h
          obtain ⟨a, rfl, rfl, wa⟩ := hI x p e1
          obtain ⟨b, rfl, rfl, wb⟩ := hI y p2 e2
          refine ⟨a, b, rfl, ?_, wa, wb⟩
          cases h
          rfl
    | _ => simp [Value.formed, hu] at q
  · cases h
theorem wf64 {f : Int} (h1 : -1 ≤ f) (h2 : f ≤ 1000) : (Lit.int .i64 f).wf = true := WalkArith.wf_i64 (by omega)
theorem key_is {f : Int} (h1 : -1 ≤ f) (h2 : f ≤ 1000) : WideAt.IsKeyLit (key2 f f) := lawM.key (keyOf_span (wf64 h1 h2) (wf64 h1 h2))
theorem key_ne {f g : Int} (h1 : -1 ≤ f) (h2 : f ≤ 1000) (g1 : -1 ≤ g) (g2 : g ≤ 1000) (ne : f ≠ g) : key2 f f ≠ key2 g g := by
  intro e
  have a := keyOf_span (wf64 h1 h2) (wf64 h1 h2)
  have b := keyOf_span (wf64 g1 g2) (wf64 g1 g2)
  rw [e] at a
  have := lawM.inj a b
  simp at this
  exact ne this

/-- The map D tells of each floor who holds it: S. -/
structure Told (D : DataW Unit) (S : Int → Option Int) : Prop where
  isMap : IsMap D
  some_ : ∀ f c, S f = some c → Maps.has D (key2 f f) = true ∧ ∀ z, D.atKey (key2 f f) z = .lit (.int .i64 c)
  only : ∀ kl, Maps.has D kl = true → ∃ f c, kl = key2 f f ∧ S f = some c
  bd : ∀ f c, S f = some c → -1 ≤ f ∧ f ≤ 1000
theorem Told.empty : Told (.map []) (fun _ => none) :=
  ⟨isMap_empty, fun f c h => by (first | cases h | simp at h), fun kl h => by (first | cases h | simp [Maps.has] at h), fun f c h => by (first | cases h | simp at h)⟩
theorem Told.put {D : DataW Unit} {S : Int → Option Int} (t : Told D S) {f : Int} (c : Int) (h1 : -1 ≤ f) (h2 : f ≤ 1000) : Told (D.put (key2 f f) (.lit (.int .i64 c))) (fun g => if g = f then some c else S g) := by
  refine ⟨t.isMap.put _ _, fun g d hg => ?_, fun kl hk => ?_, fun g d hg => ?_⟩
  · try dsimp only at hg
    by_cases e : g = f
    · rw [if_pos e] at hg
      cases hg
      subst e
      exact ⟨has_put_same t.isMap (key_is h1 h2) _, fun z => atKey_put_same t.isMap (key_is h1 h2) _ z⟩
    · rw [if_neg e] at hg
      obtain ⟨b1, b2⟩ := t.bd g d hg
      have ne := key_ne b1 b2 h1 h2 e
      obtain ⟨p, q⟩ := t.some_ g d hg
      exact ⟨(has_put_other ne _).trans p, fun z => (atKey_put_other ne _ z).trans (q z)⟩
  · by_cases e : kl = key2 f f
    · exact ⟨f, c, e, if_pos rfl⟩
    · rw [has_put_other e] at hk
      obtain ⟨g, d, rfl, hg⟩ := t.only kl hk
      refine ⟨g, d, rfl, ?_⟩
      try dsimp only
      rw [if_neg (fun q => e (by rw [q]))]
      exact hg
  · try dsimp only at hg
    by_cases e : g = f
    · subst e; exact ⟨h1, h2⟩
    · rw [if_neg e] at hg; exact t.bd g d hg
theorem Told.del {D : DataW Unit} {S : Int → Option Int} (t : Told D S) {f : Int} (h1 : -1 ≤ f) (h2 : f ≤ 1000) : Told (D.del (key2 f f)) (fun g => if g = f then none else S g) := by
  refine ⟨t.isMap.del _, fun g d hg => ?_, fun kl hk => ?_, fun g d hg => ?_⟩
  · try dsimp only at hg
    by_cases e : g = f
    · rw [if_pos e] at hg; cases hg
    · rw [if_neg e] at hg
      obtain ⟨b1, b2⟩ := t.bd g d hg
      have ne := key_ne b1 b2 h1 h2 e
      obtain ⟨p, q⟩ := t.some_ g d hg
      exact ⟨(has_del_other ne).trans p, fun z => (atKey_del_other ne z).trans (q z)⟩
  · by_cases e : kl = key2 f f
    · subst e; rw [has_del_same] at hk; cases hk
    · rw [has_del_other e] at hk
      obtain ⟨g, d, rfl, hg⟩ := t.only kl hk
      refine ⟨g, d, rfl, ?_⟩
      try dsimp only
      rw [if_neg (fun q => e (by rw [q]))]
      exact hg
  · try dsimp only at hg
    by_cases e : g = f
    · rw [if_pos e] at hg; cases hg
    · rw [if_neg e] at hg; exact t.bd g d hg

/-- How a number lies in such a map. -/
noncomputable abbrev RI : Value → Option (DataW Unit × List MemPlace) := plainElem Try.prog 2
/-- The block b is a map of at most n floors that tells S. -/
def Held (w : World) (b n : Nat) (S : Int → Option Int) : Prop := ∃ D, w.ownsMap Try.prog 27 RI b n D ∧ Told D S
theorem own_below {w w' : World} {b n B : Nat} {D : DataW Unit} (h : w.ownsMap Try.prog 27 RI b n D) (hb : Below B w w') (hB : b < B) : w'.ownsMap Try.prog 27 RI b n D := by
  obtain ⟨es, clock, hm, F, hs, hD⟩ := h
  exact ⟨es, clock, (hb.block b hB).trans hm, F, hs, hD⟩
theorem Held.lt {w : World} {b n : Nat} {S : Int → Option Int} (h : Held w b n S) : b < w.heap.size := by
  obtain ⟨D, ho, _⟩ := h
  exact ho.lt
theorem Held.below {w w' : World} {b n B : Nat} {S : Int → Option Int} (h : Held w b n S) (hb : Below B w w') (hB : b < B) : Held w' b n S := by
  obtain ⟨D, ho, t⟩ := h
  exact ⟨D, own_below ho hb hB, t⟩
theorem Held.alloc {w : World} {b n : Nat} {S : Int → Option Int} (h : Held w b n S) (o : Obj) : Held (w.alloc o) b n S := by
  obtain ⟨D, ho, t⟩ := h
  exact ⟨D, ho.alloc o, t⟩
theorem Held.drew {w : World} {b n : Nat} {S : Int → Option Int} (h : Held w b n S) : Held w.drew b n S := by
  obtain ⟨D, ho, t⟩ := h
  exact ⟨D, ho.drew, t⟩
theorem rng_below {w w' : World} {b r n B cnt : Nat} {D : DataW Unit} {left : Lit → Bool} (h : w.ranges Try.prog 27 RI b r n D left cnt) (hb : Below B w w') (hB : b < B) (hR : r < B) : w'.ranges Try.prog 27 RI b r n D left cnt := by
  obtain ⟨es, clock, since, seen, c0, h1, h2, h3, h4, h5, h6⟩ := h
  exact ⟨es, clock, since, seen, c0, (hb.block b hB).trans h1, h2, h3, h4, (hb.block r hR).trans h5, h6⟩
theorem rng_drew {w : World} {b r n cnt : Nat} {D : DataW Unit} {left : Lit → Bool} (h : w.ranges Try.prog 27 RI b r n D left cnt) : w.drew.ranges Try.prog 27 RI b r n D left cnt := h
theorem grown_drew {a c : World} {row : Option Nat} (h : a.grownBy c row) : a.grownBy c.drew row := ⟨h.os, h.tape, h.output, h.size, h.block⟩
theorem rng_lt {w : World} {b r n cnt : Nat} {D : DataW Unit} {left : Lit → Bool} (h : w.ranges Try.prog 27 RI b r n D left cnt) : b < w.heap.size := h.owns.lt
theorem grown_cell {w w' : World} {row : Option Nat} (hg : w.grownBy w' row) {k o : Nat} (hk : k < w.heap.size) (hne : some k ≠ row) : w'.cell? ⟨k, o, none⟩ = w.cell? ⟨k, o, none⟩ := World.cell?_of_block (w := w) (hg.block k hk hne)
theorem grown_frozen {w w' : World} {row : Option Nat} (hg : w.grownBy w' row) {k o : Nat} (hk : k < w.heap.size) (hne : some k ≠ row) : w'.frozen? ⟨k, o, none⟩ = w.frozen? ⟨k, o, none⟩ := World.frozen?_of_block (w := w) (hg.block k hk hne)
theorem MW.grown {W w : World} {b : Nat} {x : Sp} {row : Option Nat} (a : MW W b x) (hg : W.grownBy w row) (hne : some b ≠ row) : MW w b x :=
  a.of (fun o => grown_cell hg a.lt hne) (fun o => grown_frozen hg a.lt hne)
theorem NW.grown {W w : World} {b : Nat} {x : Ss} {row : Option Nat} (a : NW W b x) (hg : W.grownBy w row) (hne : some b ≠ row) : NW w b x :=
  a.of (fun o => grown_cell hg a.lt hne) (fun o => grown_frozen hg a.lt hne)
/-- A step of the range: what has come. -/
theorem told_step {D : DataW Unit} {S : Int → Option Int} (t : Told D S) {a b c : Int} {kl : Lit} {y : DataW Unit × List MemPlace} (hk : keyOf Try.prog 27 (.agg #[.int .i64 a, .int .i64 b]) = some kl) (hv : RI (.int .i64 c) = some y) (hat : ∀ zd, D.atKey kl zd = y.1) :
    b = a ∧ kl = key2 a a ∧ S a = some c ∧ -1 ≤ a ∧ a ≤ 1000 := by
  obtain ⟨f, d, rfl, hf⟩ := t.only kl (has_true_of_atKey hat)
  obtain ⟨b1, b2⟩ := t.bd f d hf
  have e := lawM.inj hk (keyOf_span (wf64 b1 b2) (wf64 b1 b2))
  simp at e
  obtain ⟨ea, eb⟩ := e
  obtain ⟨c', ec, rfl, _⟩ := plainElem_int_inv undI hv
  cases ec
  have q := (t.some_ f d hf).2 (.lit (.int .i64 0))
  rw [hat] at q
  cases q
  exact ⟨by rw [ea, eb], by rw [ea], by rw [ea]; exact hf, by omega, by omega⟩
end Go.Proofs.Ytpfihpplpefikaa
