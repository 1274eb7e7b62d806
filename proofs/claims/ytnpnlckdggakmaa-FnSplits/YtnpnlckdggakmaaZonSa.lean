/-
  A loop over a map whose rounds hold a loop over an iterator: what serves (general), and the counts of the floors (plain).
-/
import Derived.Test.YtnpnlckdggakmaaZonCb
import Derived.Test.YtnpnlckdggakmaaZonE
import Derived.Test.YtnpnlckdggakmaaZonJ
import Derived.Deep.RegionHeld
namespace Go.Proofs.Ytnpnlckdggakmaa
open Go.RowKit Go.Shelf Pl Go.Maps Go.ChangeMaps Go.MapKept
set_option linter.unusedSimpArgs false
set_option linter.unusedVariables false

theorem op_wide {n : Nat} {P : Program} {o : Oper} {a : Act} {w : World} {next : Act → World → Prop} {Q : Exit → Act → World → Prop} (hd : ∀ c, o.op ≠ .defer c) (h : o.wp P a w next Q) : o.wpIn Fence.wide n P a w next Q := by
  refine ⟨fun _ _ => trivial, ?_⟩
  rw [Oper.semAt_plain Fence.wide _ _ hd]
  unfold Oper.wp at h
  revert h
  cases (execOp a.eval o).run P w with
  | ok x w' =>
    cases x with
    | value v => exact fun h => h
    | skip => exact fun h => h
    | defer d => exact fun h => h
    | enter f args => exact fun h => ⟨fun q => by simp [Fence.wide] at q, callsIn_wide.2 h⟩
    | row r args => exact fun h => ⟨fun q => by simp [Fence.wide] at q, fun c cs _ => let ⟨v, w', r, s⟩ := h c cs; ⟨v, w', r, stepsIn_wide.2 s⟩⟩
    | _ => exact fun h => h.elim
  | halt x w' =>
    cases x with
    | panic v => exact fun h => h
    | _ => exact fun h => h.elim
theorem anyIn_wide {n : Nat} {P : Program} {md : Region.Mode} {ops : Array Oper} {Q : Exit → Act → World → Prop} (hL : ¬ LetsOut Q) (hd : ∀ (i : Nat) (o : Oper), ops[i]? = some o → ∀ c, o.op ≠ .defer c) :
    ∀ (fuel : Nat) (listed : Array Bool) (a : Act) (w : World), wpAny P md ops Q fuel listed a w → wpAnyIn Fence.wide n P md ops Q fuel listed a w := by
  intro fuel
  induction fuel with
  | zero => intro listed a w h; exact h
  | succ fuel ih =>
    intro listed a w h
    refine ⟨h.1, fun i hi => ?_⟩
    have q := h.2 i hi
    unfold wpOp at q
    unfold wpOpIn
    cases ho : ops[i]? with
    | none => rw [ho] at q; exact ih _ _ _ q
    | some o =>
      rw [ho] at q
      dsimp only at q ⊢
      by_cases hw : Region.wanted o (yielded ops a.tmps) = true
      · rw [if_pos hw] at q ⊢
        rcases q with q | ⟨_, q⟩
        · exact Oper.wpIn_mono (F := Fence.wide) (fun a w hh => ih (listed.setIfInBounds i true) a w hh) (op_wide (hd i o ho) q)
        · exact absurd q hL
      · rw [if_neg hw] at q ⊢
        exact ⟨fun _ _ => trivial, ih _ _ _ q⟩
/-- A region that draws, in a round of a loop over an iterator: walked as anywhere. -/
theorem region_round {n : Nat} {P : Program} {S : World → Prop} {id : Nat} {Q : Exit → Act → World → Prop} {a : Act} {w : World} {l : List Oper} {r : Nat} (hL : ¬ LetsOut Q) (hd : noDefer l = true) (hm : P.follows .mixedOrders = true) (hS : S w.drew)
    (h : S w.drew → wpAnyH P .any l.toArray Q S l.toArray.size (Array.replicate l.toArray.size false) a w.drew) : (Code.region id l.toArray true).wpIn (Fence.wide.inRound r) n P Q a w :=
  wpIn_region_any hm (any_round r rfl (noDefer_spec hd) _ _ _ _ (anyIn_wide hL (noDefer_spec hd) _ _ _ _ (wpAny_of_held _ _ _ _ (h hS))))
def marksZ (Ds : List Nat) : List Deferred := Ds.map (fun D => { target := .collected D, args := #[] })
structure MkZ (W : World) (B : Nat) (Ds : List Nat) : Prop where
  nd : Ds.Nodup
  at_ : ∀ D ∈ Ds, B ≤ D ∧ W.heap[D]? = some (.deferred (some []))
theorem MkZ.lt {W : World} {B : Nat} {Ds : List Nat} (h : MkZ W B Ds) {D : Nat} (hD : D ∈ Ds) : D < W.heap.size := (Array.getElem?_eq_some_iff.1 (h.at_ D hD).2).1
theorem MkZ.grown {W W' : World} {B b : Nat} {Ds : List Nat} (h : MkZ W B Ds) (hg : W.grownBy W' (some b)) (hb : b < B) : MkZ W' B Ds :=
  ⟨h.nd, fun D hD => ⟨(h.at_ D hD).1, (hg.block D (h.lt hD) (fun e => by have e2 := Option.some.inj e; have := (h.at_ D hD).1; omega)).trans (h.at_ D hD).2⟩⟩
theorem leaves_marksZ {n : Nat} {P : Program} {fn : Func} {tmps : Array Value} {R : Ending → World → Prop} {B : Nat} : ∀ (Ds : List Nat) (W : World), MkZ W B Ds → (∀ W', Below B W W' → LeavesInM Fence.wide n P fn tmps R [] .returning W') → LeavesInM Fence.wide n P fn tmps R (marksZ Ds) .returning W
  | [], W, _, hR => hR W (Below.refl _ _)
  | D :: Ds, W, hM, hR => by
    obtain ⟨hB, hK⟩ := hM.at_ D (List.mem_cons_self ..)
    have hl := hM.lt (List.mem_cons_self ..)
    obtain ⟨n1, n2⟩ := List.nodup_cons.1 hM.nd
    refine ⟨by simp, .inl ⟨D, _, rfl, run_takeDeferred hK, leaves_marksZ Ds _ ⟨n2, fun E hE => ⟨(hM.at_ E (List.mem_cons_of_mem _ hE)).1, ?_⟩⟩ (fun W' hb => hR W' ((below_putObj (Below.refl _ _) hB (by omega) hK).trans hb))⟩⟩
    have ne : D ≠ E := fun e => n1 (e ▸ hE)
    exact (World.putObj_heap_other ne.symm).trans (hM.at_ E (List.mem_cons_of_mem _ hE)).2
theorem ownFrom_grown {β : Type} {W0 : World} {b : Nat} : OwnFrom W0.heap.size (fun (_ : β) W => W0.grownBy W (some b)) := by
  intro s A C row h hg hr
  refine ⟨hg.os.trans h.os, hg.tape.trans h.tape, hg.output.trans h.output, Nat.le_trans h.size hg.size, fun k hk hne => ?_⟩
  refine (hg.block k (Nat.lt_of_lt_of_le hk h.size) (fun e => ?_)).trans (h.block k hk hne)
  have := (hr k e.symm).1
  omega
/-- What a round over a set's floors keeps. -/
structure RdZ (b5 b8 : Nat) (W5 W W' : World) : Prop where
  k : KeepsOthers W W'
  p : KeepB b8 W W'
  g : W5.grownBy W' (some b5)
theorem RdZ.drew {b5 b8 : Nat} {W5 W W' : World} (h : RdZ b5 b8 W5 W W') : RdZ b5 b8 W5 W W'.drew := ⟨⟨h.k.1, fun k o a b => h.k.2 k o a b⟩, h.p, ⟨h.g.os, h.g.tape, h.g.output, h.g.size, h.g.block⟩⟩
theorem RdZ.set {b5 b8 i : Nat} {W5 W W' : World} (h : RdZ b5 b8 W5 W W') (ne : b8 ≠ b5) (v : Value) : RdZ b5 b8 W5 W (W'.setCell ⟨b5, i, none⟩ v) := by
  have o : ∀ k, k ≠ b5 → (W'.setCell ⟨b5, i, none⟩ v).heap[k]? = W'.heap[k]? := fun k hk => Below.heap_setCell W' _ v k hk
  refine ⟨h.k.trans (KeepsOthers.setCell _ _ _), (o b8 ne).trans h.p, ⟨h.g.os, h.g.tape, h.g.output, by simpa using h.g.size, fun k hk hn => (o k (fun e => hn (by rw [e]))).trans (h.g.block k hk hn)⟩⟩
/-- Twelve counts. -/
def cvs (f : Nat → Nat) : List Value := (List.range 12).map (fun i : Nat => .int .i64 (f i : Nat))
theorem cvs_len (f : Nat → Nat) : (cvs f).length = 12 := by simp [cvs]
theorem cvs_get {f : Nat → Nat} {i : Nat} (h : i < 12) : (cvs f)[i]? = some (.int .i64 (f i : Nat)) := by simp [cvs, h]
theorem cvs_zero : ([.int .i64 0, .int .i64 0, .int .i64 0, .int .i64 0, .int .i64 0, .int .i64 0, .int .i64 0, .int .i64 0, .int .i64 0, .int .i64 0, .int .i64 0, .int .i64 0] : List Value) = cvs (fun _ => 0) := by simp [cvs, List.range_succ]
theorem cvs_set {f g : Nat → Nat} {i : Nat} (h : i < 12) (hi : g i = f i + (g i - f i)) (ho : ∀ j, j ≠ i → g j = f j) : (cvs f).set i (.int .i64 (g i : Nat)) = cvs g := by
  apply List.ext_getElem?
  intro j
  by_cases e : i = j
  · subst e
    rw [List.getElem?_set_self (by rw [cvs_len]; exact h), cvs_get h]
  · rw [List.getElem?_set_ne e]
    by_cases hj : j < 12
    · rw [cvs_get hj, cvs_get hj, ho j (fun q => e q.symm)]
    · rw [List.getElem?_eq_none (by rw [cvs_len]; omega), List.getElem?_eq_none (by rw [cvs_len]; omega)]
theorem undCN : Try.prog.underlying 81 = some (.array 12 2) := by kernel_rfl
theorem cvs_info (f : Nat → Nat) : (Try.prog.info? 81).map (·.size) = some (cvs f).toArray.size := by
  have e : (cvs f).toArray.size = 12 := by simp [cvs]
  have z : (Try.prog.info? 81).map (·.size) = some 12 := by kernel_rfl
  exact z.trans (congrArg some e.symm)
theorem ixCN {f : Nat → Nat} {i : Nat} (h : i < 12) : ∀ w, (Instr.index 81 (.agg (cvs f).toArray) (.int .i64 (i : Int))).run Try.prog w = .ok (.int .i64 (f i : Nat)) w :=
  fun w => index_arr undCN (fun w => by rfl) (fun w => by rfl) (cvs f) i _ h (cvs_get h) w
/-- How often a floor has come. -/
def cntF (pre : List (Fin 12)) (f : Nat) : Nat := pre.countP (fun x => x.1 == f)
theorem cntF_snoc (pre : List (Fin 12)) (x : Fin 12) (f : Nat) : cntF (pre ++ [x]) f = cntF pre f + (if x.1 = f then 1 else 0) := by
  unfold cntF
  rw [List.countP_append, List.countP_singleton]
  simp
theorem cntF_le (pre : List (Fin 12)) (f : Nat) : cntF pre f ≤ pre.length := List.countP_le_length
theorem cntF_up (m f : Nat) : ∀ k, k ≤ 12 → cntF (upF m k) f = if f < k ∧ m.testBit f = true then 1 else 0
  | 0, _ => by simp [cntF, upF]
  | k + 1, h => by
    have ih := cntF_up m f k (by omega)
    cases hb : m.testBit k with
    | true =>
      rw [upF_yes (by omega) hb, cntF_snoc, ih]
      dsimp only
      by_cases e : k = f
      · subst e
        rw [if_neg (by omega), if_pos rfl, if_pos ⟨by omega, hb⟩]
      · rw [if_neg e]
        by_cases q : f < k ∧ m.testBit f = true
        · rw [if_pos q, if_pos ⟨by omega, q.2⟩]
        · rw [if_neg q, if_neg (fun c => q ⟨by omega, c.2⟩)]
    | false =>
      rw [upF_no hb, ih]
      by_cases e : k = f
      · subst e
        rw [if_neg (by omega), if_neg (by rw [hb]; simp)]
      · by_cases q : f < k ∧ m.testBit f = true
        · rw [if_pos q, if_pos ⟨by omega, q.2⟩]
        · rw [if_neg q, if_neg (fun c => q ⟨by omega, c.2⟩)]
theorem tally_le (f : Nat) : ∀ (zs ks : List Nat), ks.Nodup → tallyN zs f ks ≤ zs.length
  | [], ks, h => by
    have : tallyN [] f ks = 0 := by
      unfold tallyN
      induction ks with
      | nil => rfl
      | cons k ks ih =>
        rw [List.map_cons, List.sum_cons, ih (List.nodup_cons.1 h).2]
        simp
    omega
  | z :: zs, ks, h => by
    rw [tally_cons z zs f ks h, List.length_cons]
    have := tally_le f zs ks h
    split <;> omega
/-- What has come of the map: sets, each once; what is left. -/
structure GoneZ (zs : List Nat) (left : Lit → Bool) (ks : List Nat) : Prop where
  nd : ks.Nodup
  sub : ∀ k ∈ ks, k ∈ zs
  l : ∀ m ∈ zs, left (keyF m) = true ∨ m ∈ ks
  r : ∀ m ∈ ks, left (keyF m) = false
end Go.Proofs.Ytnpnlckdggakmaa
