/-
  Rows of texts of one's own: held, read, appended to; a text's bytes and pieces as the program reads them.
-/
import Derived.Test.YtoacnglcneliiaaGreatDoorInts
import Derived.Test.YtoacnglcneliiaaGreatDoorParP
import Derived.ArgAppend
namespace Go.Proofs.YtoacnglcneliiaaGreatDoor
open Go.RowKit Pl
set_option linter.unusedSimpArgs false
set_option linter.unusedVariables false

def strsV (l : List ByteArray) : List Value := l.map Value.string
def OwS (w : World) (B : Nat) (v : Value) (l : List ByteArray) : Prop := w.ownsRow B 9 1 v l.length (strsV l)
theorem OwS.below {W w : World} {B C : Nat} {v : Value} {l : List ByteArray} (h : OwS W B v l) (hb : Below C W w) (hC : ∀ k, v.ownBlock = some k → k < C) : OwS w B v l := row_below h hb hC
theorem OwS.lt {w : World} {B : Nat} {v : Value} {l : List ByteArray} (h : OwS w B v l) : ∀ k, v.ownBlock = some k → B ≤ k ∧ k < w.heap.size := World.ownsRow.lt h
theorem OwS.alloc {w : World} {B : Nat} {v : Value} {l : List ByteArray} (h : OwS w B v l) (o : Obj) : OwS (w.alloc o) B v l := World.ownsRow.alloc h o
theorem OwS.base {w : World} {B C : Nat} {v : Value} {l : List ByteArray} (h : OwS w B v l) (hC : C ≤ B) : OwS w C v l := row_base h hC
theorem OwS.cell {w : World} {B g n cap : Nat} {l : List ByteArray} (h : OwS w B (.slice (some ⟨g, 0, none⟩) n cap) l) {i : Nat} {x : ByteArray} (hx : l[i]? = some x) : w.cell? ⟨g, i, none⟩ = some (.string x) := by
  have hn : n = l.length := by
    rcases h.2 with ⟨e, _⟩ | ⟨_, _, _, e, _⟩
    · cases e
    · simp at e; exact e.2.1
  subst hn
  have hi : i < l.length := (List.getElem?_eq_some_iff.1 hx).1
  refine (World.ownsRow.cellAt h i (by omega)).trans ?_
  simp [strsV, hx]
theorem OwS.cases {w : World} {B : Nat} {v : Value} {l : List ByteArray} (h : OwS w B v l) : (v = .slice none 0 0 ∧ l = []) ∨ ∃ g cap, v = .slice (some ⟨g, 0, none⟩) l.length cap := by
  rcases h.2 with ⟨e, hn⟩ | ⟨g, cap, cur, e, _⟩
  · exact Or.inl ⟨e, List.eq_nil_of_length_eq_zero hn⟩
  · exact Or.inr ⟨g, cap, e⟩
theorem infoStr : (Tryz.prog.info? 9).map (fun i => (i.zero, i.size, i.bytes)) = some (some (.string ByteArray.empty), 1, 16) := by kernel_rfl
theorem undStrs : Tryz.prog.underlying 47 = some (.slice 9) := by kernel_rfl
theorem one_newS (w : World) (x : ByteArray) (T : TypeId) : ∀ j u, ([Value.string x] : List Value)[j]? = some u → (w.alloc (.cells #[.string x] T)).cell? ((⟨w.heap.size, 0, none⟩ : Addr).add j) = some u := by
  intro j u hu
  cases j with
  | zero =>
    simp at hu
    subst hu
    simp [Addr.add]
  | succ j => simp at hu
theorem one_cellS (x : ByteArray) : ∀ u ∈ ([Value.string x] : List Value), u.oneCell' = true := by
  intro u hu
  simp at hu
  subst hu
  rfl
theorem ows_lit (w : World) (B : Nat) (hB : B ≤ w.heap.size) : OwS (w.alloc (.cells #[] 9)) B (.slice (some ⟨w.heap.size, 0, none⟩) 0 0) [] :=
  World.ownsRow_lit (base := B) (e := 9) (size := 1) w #[] 0 hB (by unfold maxLen; omega) rfl
theorem OwS.app {w : World} {B : Nat} {v : Value} {l : List ByteArray} {x : ByteArray} (h : w.ownsRow B 9 1 v (l.length + 1) (strsV l ++ [.string x])) : OwS w B v (l ++ [x]) := by
  unfold OwS
  rw [List.length_append]
  have e : strsV (l ++ [x]) = strsV l ++ [.string x] := by simp [strsV]
  rw [e]
  exact h
/-- An append to a row of one's own: the row stays where it is, or goes into a new block. -/
theorem app_apart (w : World) (ty : TypeId) (B : Nat) (v : Value) (l : List ByteArray) (y : ByteArray) (hown : OwS w B v l) (b : Nat) (hc : w.cell? ⟨b, 0, none⟩ = some (.string y)) (hl : l.length ≤ 4000000) (hB : B ≤ w.heap.size) :
    ∃ v' w', (Builtin.append_ #[47, 47] ty #[v, .slice (some ⟨b, 0, none⟩) 1 1]).run Tryz.prog w = .ok v' w' ∧ OwS w' B v' (l ++ [y]) ∧ w.grownBy w' v.ownBlock ∧ (v'.ownBlock = v.ownBlock ∨ ∀ k, v'.ownBlock = some k → w.heap.size ≤ k) := by
  obtain ⟨i0, hi, hz, hs, hby⟩ := info_parts infoStr
  have hn : ∀ j u, ([Value.string y] : List Value)[j]? = some u → w.cell? ((⟨b, 0, none⟩ : Addr).add j) = some u := by
    intro j u hu
    cases j with
    | zero => simp at hu; subst hu; simpa [Addr.add] using hc
    | succ j => simp at hu
  have h1 : ∀ u ∈ ([Value.string y] : List Value), u.oneCell' = true := by intro u hu; simp at hu; subst hu; rfl
  have hxl : (strsV l).length = l.length * 1 := by simp [strsV]
  obtain ⟨v', w', hr, ho, hg, _⟩ := run_append_own (P := Tryz.prog) w B 47 ty 9 i0 (.string ByteArray.empty) 1 16 undStrs hi hz hs hby rfl (by omega) v l.length (strsV l) hown ⟨b, 0, none⟩ 1 1 [.string y] rfl hn h1 (by unfold maxLen; omega) (by omega) hB
  refine ⟨v', w', hr, OwS.app ho, hg, ?_⟩
  rcases hown.2 with ⟨rfl, h0⟩ | ⟨g, cap, cur, rfl, hBg, hgb, hle, hcm, hsz, htk⟩
  · obtain ⟨v2, w2, hr2, ho2, _, _⟩ := run_append_own (P := Tryz.prog) w w.heap.size 47 ty 9 i0 (.string ByteArray.empty) 1 16 undStrs hi hz hs hby rfl (by omega) (.slice none 0 0) 0 [] (World.ownsRow_nil w _ 9 1) ⟨b, 0, none⟩ 1 1 [.string y] rfl hn h1 (by unfold maxLen; omega) (by omega) (Nat.le_refl _)
    rw [hr] at hr2
    injection hr2 with e1 e2
    subst e1
    exact Or.inr fun k hk => (ho2.lt k hk).1 |> fun q => by subst e2; exact q
  · by_cases hroom : l.length + 1 ≤ cap
    · have hr2 := run_append_room_cells (P := Tryz.prog) w 47 ty 9 i0 undStrs hi g 0 l.length cap ⟨b, 0, none⟩ 1 1 [.string y] (by rw [hs]; rfl) hn h1 hroom (by
        intro j hj
        have : j = 0 := by simp at hj; omega
        subst this
        rw [hs]
        simp only [World.cell?, hgb]
        have : l.length < cur.size := by omega
        simp [this]) (by
        intro j hj
        exact World.ownsRow.frozenAt hown _)
      rw [hr] at hr2
      injection hr2 with e1 e2
      left
      rw [e1]
      rfl
    · obtain ⟨v2, w2, hr2, ho2, _⟩ := run_append_arg_grows (P := Tryz.prog) w 47 ty 9 i0 (.string ByteArray.empty) 1 16 undStrs hi hz hs hby rfl (by omega) ⟨g, 0, none⟩ l.length cap (strsV l) hxl (fun j u hj => by
        have hj2 : j < l.length := by have := (List.getElem?_eq_some_iff.1 hj).1; simpa [strsV] using this
        have := World.ownsRow.cellAt hown j (by omega)
        rw [Addr.add_lit, Nat.zero_add, this]
        exact hj) ⟨b, 0, none⟩ 1 1 [.string y] rfl hn (by omega) (by unfold maxLen; omega) (by omega)
      rw [hr] at hr2
      injection hr2 with e1 e2
      subst e1
      exact Or.inr fun k hk => (ho2.lt k hk).1
theorem wpS {w : World} {ops : Array Oper} {rest : List Oper} {o : Oper} {a : Act} {Q : Exit → Act → World → Prop} (hgd : o.guard = none) (s x : Operand)
    (hop : o.op = .call { callee := .builtin .append, args := #[s, x], argTypes := #[47, 47] }) (B : Nat) (v : Value) (l : List ByteArray) (y : ByteArray) (hs : a.eval s = v) (hown : OwS w B v l) (b : Nat)
    (hx : a.eval x = .slice (some ⟨b, 0, none⟩) 1 1) (hc : w.cell? ⟨b, 0, none⟩ = some (.string y)) (hl : l.length ≤ 4000000) (hB : B ≤ w.heap.size)
    (h : ∀ v' w', OwS w' B v' (l ++ [y]) → w.grownBy w' v.ownBlock → (v'.ownBlock = v.ownBlock ∨ ∀ k, v'.ownBlock = some k → w.heap.size ≤ k) → wpList Tryz.prog ops Q rest (a.put o.dst v') w') :
    wpList Tryz.prog ops Q (o :: rest) a w := by
  refine wpList_plain hgd fun K hK' => ?_
  obtain ⟨v', w', hrun, r1, r2, r3⟩ := app_apart w o.type B v l y hown b hc hl hB
  unfold Oper.wp
  simp [execOp, hop, resolve, invoke, builtin, hs, hx, hrun, Result.andThen]
  exact hK' _ _ (h v' w' r1 r2 r3)
/-- A row of texts: laid somewhere, readable. -/
def SIn (w : World) (B : Nat) (a : Option Addr) (l : List ByteArray) : Prop := l = [] ∨ ∃ g, a = some ⟨g, 0, none⟩ ∧ g < B ∧ ∀ i x, l[i]? = some x → w.cell? ⟨g, i, none⟩ = some (.string x)
theorem SIn.below {W w : World} {B C : Nat} {a : Option Addr} {l : List ByteArray} (h : SIn W B a l) (hb : Below C W w) (hC : B ≤ C) : SIn w B a l := by
  rcases h with h | ⟨g, e, hg, hc⟩
  · exact Or.inl h
  · exact Or.inr ⟨g, e, hg, fun i x hx => (hb.cell (p := ⟨g, i, none⟩) (Nat.lt_of_lt_of_le hg hC)).trans (hc i x hx)⟩
theorem SIn.mono {W : World} {B C : Nat} {a : Option Addr} {l : List ByteArray} (h : SIn W B a l) (hC : B ≤ C) : SIn W C a l := by
  rcases h with h | ⟨g, e, hg, hc⟩
  · exact Or.inl h
  · exact Or.inr ⟨g, e, Nat.lt_of_lt_of_le hg hC, hc⟩
theorem SIn.take {W : World} {B : Nat} {a : Option Addr} {l : List ByteArray} (h : SIn W B a l) (k : Nat) : SIn W B a (l.take k) := by
  rcases h with h | ⟨g, e, hg, hc⟩
  · exact Or.inl (by rw [h]; simp)
  · exact Or.inr ⟨g, e, hg, fun i x hx => hc i x (by rw [List.getElem?_take] at hx; split at hx <;> first | exact hx | cases hx)⟩
theorem OwS.sin {w : World} {B C n cap : Nat} {a : Option Addr} {l : List ByteArray} (h : OwS w B (.slice a n cap) l) (hC : w.heap.size ≤ C) : SIn w C a l := by
  rcases h.cases with ⟨_, hl⟩ | ⟨g, cap', e⟩
  · exact Or.inl hl
  · injection e with e1 e2 e3
    subst e1
    exact Or.inr ⟨g, rfl, Nat.lt_of_lt_of_le (h.lt g rfl).2 hC, fun i x hx => h.cell hx⟩

/-! ### bytes and pieces -/
theorem undStr : Tryz.prog.underlying 9 = some .string := by kernel_rfl
theorem byte_at (s : ByteArray) (i : Nat) (hi : i < s.size) (w : World) : (Instr.index 9 (.string s) (.int .i64 (i : Int))).run Tryz.prog w = .ok (.int .u8 ((s.get! i).toNat : Int)) w := by
  rw [run_index_string (P := Tryz.prog) w 9 s .i64 (i : Int) undStr, dif_pos (by omega)]
  rw [get_eq s i hi]
  rfl
theorem piece_at (s : ByteArray) (f i : Nat) (hf : f ≤ i) (hi : i ≤ s.size) (w : World) : (Instr.slice 9 (.string s) (some (.int .i64 (f : Int))) (some (.int .i64 (i : Int))) none).run Tryz.prog w = .ok (.string (s.extract f i)) w := by
  simp [Instr.slice, run_underlying undStr, Instr.sliceBounds, run_sliceBound, sliced, show (0 : Int) ≤ f by omega, show (f : Int) ≤ i by omega, show (i : Int) ≤ s.size by omega, show f ≤ i by omega, show i ≤ s.size by omega]
theorem empty_eq (s : ByteArray) : (s.toList == (⟨#[]⟩ : ByteArray).toList) = !neB s := by
  rw [ByteArray.toList_eq, ByteArray.toList_eq]
  unfold neB
  by_cases h : s.size = 0
  · have : s.data.toList = [] := List.eq_nil_of_length_eq_zero (by simpa using h)
    rw [this, h]; rfl
  · have : s.data.toList ≠ [] := by
      intro e; apply h
      have := congrArg List.length e
      simpa using this
    have hb : (s.size != 0) = true := by simpa using h
    rw [hb]
    simpa using this
theorem toList_eq_nil (x : ByteArray) (h : neB x = false) : x.toList = [] := by
  have := empty_eq x
  rw [h, ByteArray.toList_eq, ByteArray.toList_eq] at this
  rw [ByteArray.toList_eq]
  simpa using this
theorem toList_neq_nil (x : ByteArray) (h : neB x = true) : ¬ x.toList = [] := by
  intro e
  have := empty_eq x
  rw [h, e] at this
  rw [ByteArray.toList_eq] at this
  simp at this
end Go.Proofs.YtoacnglcneliiaaGreatDoor
