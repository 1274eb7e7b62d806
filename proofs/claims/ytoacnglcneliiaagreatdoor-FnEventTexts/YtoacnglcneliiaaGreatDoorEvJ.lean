/-
  A map of journeys of one's own: looked up, an entry made, an entry stored.
-/
import Derived.Test.YtoacnglcneliiaaGreatDoorEvB
import Derived.Maps.OwnSet
import Derived.Maps.RangeWalk
namespace Go.Proofs.YtoacnglcneliiaaGreatDoor
open Go.RowKit Pl Go.Maps Go.ChangeMaps Go.MapKept
open Go.WideElems (Fit rd rg pl)
set_option linter.unusedSimpArgs false
set_option linter.unusedVariables false

/-- An element reads as itself. -/
def RV (v : Value) : Option (DataW Value × List MemPlace) := some (.held v, [])
theorem undI64 : Tryz.prog.underlying 2 = some (.int .i64) := by kernel_rfl
theorem undJM : Tryz.prog.underlying 58 = some (.map 2 91) := by kernel_rfl
theorem keyI : Keyed Tryz.prog 2 := int_keyed undI64
theorem zeroJ (w : World) : (zeroValue 91).run Tryz.prog w = .ok (.agg #[.int .i64 0, .int .i64 0, .int .i64 0, .int .i64 0, .int .i64 0, .int .i64 0, .int .i64 0]) w := by kernel_rfl
theorem setBlock_inj {w : World} {b : Nat} {es es1 es2 : Array MapEntry} {c c1 c2 : Nat} (hb : w.heap[b]? = some (.map es c)) (h : setBlock w b (.map es1 c1) = setBlock w b (.map es2 c2)) : es1 = es2 ∧ c1 = c2 := by
  have e := (heap_setBlock_same hb (.map es1 c1)).symm.trans ((congrArg (fun z : World => z.heap[b]?) h).trans (heap_setBlock_same hb (.map es2 c2)))
  have e2 := Option.some.inj e
  injection e2 with e3 e4
  exact ⟨e3, e4⟩
/-- An entry of the key was made, under the stamp st: what is stored there stands at the key. -/
def Pend (w : World) (b n : Nat) (D : DataW Value) (kl : Lit) (st : Nat) : Prop :=
  ∃ es clock i, w.heap[b]? = some (.map es clock) ∧ es.findIdx? (fun e => (e.born : Int) == (st : Int)) = some i ∧
    ∀ val, Fit Tryz.prog 2 RV (es.modify i fun e => { e with val := val }) clock ∧ es.size ≤ n + 1 ∧ D.put kl (.held val) = .map (((es.modify i fun e => { e with val := val }).toList.map (rg Tryz.prog 2 RV)).foldr DataW.insert [])
theorem Pend.of {w w' : World} {b n : Nat} {D : DataW Value} {kl : Lit} {st : Nat} (h : Pend w b n D kl st) (e : w'.heap[b]? = w.heap[b]?) : Pend w' b n D kl st := by
  obtain ⟨es, clock, i, hb, r⟩ := h
  exact ⟨es, clock, i, e.trans hb, r⟩
theorem Pend.lt {w : World} {b n : Nat} {D : DataW Value} {kl : Lit} {st : Nat} (h : Pend w b n D kl st) : b < w.heap.size := by
  obtain ⟨es, clock, i, hb, r⟩ := h
  exact (Array.getElem?_eq_some_iff.1 hb).1
theorem Pend.below {w w' : World} {b n B : Nat} {D : DataW Value} {kl : Lit} {st : Nat} (h : Pend w b n D kl st) (hb : Below B w w') (hB : b < B) : Pend w' b n D kl st := h.of (hb.block b hB)
theorem Pend.alloc {w : World} {b n : Nat} {D : DataW Value} {kl : Lit} {st : Nat} (h : Pend w b n D kl st) (o : Obj) : Pend (w.alloc o) b n D kl st := h.of (Below.heap_alloc w o b h.lt)
theorem own_belowJ {w w' : World} {b n B : Nat} {D : DataW Value} (h : w.ownsMap Tryz.prog 2 RV b n D) (hb : Below B w w') (hB : b < B) : w'.ownsMap Tryz.prog 2 RV b n D := by
  obtain ⟨es, clock, h1, r⟩ := h
  exact ⟨es, clock, (hb.block b hB).trans h1, r⟩
theorem own_ltJ {w : World} {b n : Nat} {D : DataW Value} (h : w.ownsMap Tryz.prog 2 RV b n D) : b < w.heap.size := by
  obtain ⟨es, clock, h1, r⟩ := h
  exact (Array.getElem?_eq_some_iff.1 h1).1
theorem idx_last {es : Array MapEntry} {clock : Nat} (hs : Stamped es clock) (key val : Value) : (es.push ⟨key, val, clock⟩).findIdx? (fun e => (e.born : Int) == (clock : Int)) = some es.size := by
  rw [Array.findIdx?_eq_some_iff_getElem]
  refine ⟨by simp, by simp, fun j hj => ?_⟩
  have hj' : j < es.size := hj
  simp only [Array.getElem_push_lt hj']
  have hb := hs.1 es[j] (by simp)
  simp only [beq_iff_eq, Bool.not_eq_true, beq_eq_false_iff_ne, ne_eq]
  intro e
  have : (es[j].born : Int) = (clock : Int) := e
  omega
theorem modify_last (es : Array MapEntry) (key v val : Value) (clock : Nat) : (es.push ⟨key, v, clock⟩).modify es.size (fun e => { e with val := val }) = es.push ⟨key, val, clock⟩ := by
  apply Array.ext'
  rw [Array.toList_modify, modify_eq_set _ _ es.size ⟨key, v, clock⟩ (by simp)]
  simp
theorem mapEntry_own {w : World} {b n : Nat} {D : DataW Value} (h : w.ownsMap Tryz.prog 2 RV b n D) (hn : n < maxLen) {key : Value} {kl : Lit} (hkey : keyOf Tryz.prog 2 key = some kl) :
    ∃ w' v st, (Instr.mapEntry 58 (.map (some b)) key).run Tryz.prog w = .ok (.tuple #[v, goInt (st : Nat)]) w' ∧ Pend w' b n D kl st ∧ w.grownBy w' (some b) := by
  obtain ⟨es, clock, hb, F, hs, rfl⟩ := h
  have hroom : es.size < maxLen := Nat.lt_of_le_of_lt hs hn
  have gr : ∀ es' c', w.grownBy (setBlock w b (.map es' c')) (some b) := fun es' c' => ⟨rfl, rfl, rfl, by simp [setBlock], fun i _ hi => heap_setBlock_other hb _ (fun e => hi (by rw [e]))⟩
  have st := fun val => Maps.fit_store (R' := RV) (val := val) keyI undJM hb F hroom (fun _ _ _ _ hz => hz) hkey rfl
  rcases keyI.find w hkey es.toList F.keys with ⟨h1, h2⟩ | ⟨j, e0, h1, h2, h3⟩
  · refine ⟨setBlock w b (.map (es.push ⟨key, .agg #[.int .i64 0, .int .i64 0, .int .i64 0, .int .i64 0, .int .i64 0, .int .i64 0, .int .i64 0], clock⟩) (clock + 1)), .agg #[.int .i64 0, .int .i64 0, .int .i64 0, .int .i64 0, .int .i64 0, .int .i64 0, .int .i64 0], clock, ?_, ⟨_, _, es.size, heap_setBlock_same hb _, idx_last F.stamped _ _, fun val => ?_⟩, gr _ _⟩
    · simp [Instr.mapEntry, run_underlying undJM, MapKept.run_getObj_map hb, keyI.check w false hkey, h1, zeroJ, MapKept.run_setObj_map _ hb, Result.andThen, setBlock]
    · obtain ⟨es', clock', hrun, F', hput, _⟩ := st val
      have hr : (Instr.mapUpdate 58 (.map (some b)) key val).run Tryz.prog w = .ok () (setBlock w b (.map (es.push ⟨key, val, clock⟩) (clock + 1))) := by
        simp [Instr.mapUpdate, run_underlying undJM, MapKept.run_getObj_map hb, keyI.check w false hkey, h1, MapKept.run_setObj_map _ hb, Result.andThen, setBlock]
      rw [hr] at hrun
      injection hrun with _ e
      obtain ⟨rfl, rfl⟩ := setBlock_inj hb e
      rw [modify_last]
      exact ⟨F', by simp; omega, by rw [DataW.put_eq, hput]⟩
  · have hj : es[j]? = some e0 := by simpa using h2
    have hjl : j < es.size := (Array.getElem?_eq_some_iff.1 hj).1
    have same : es.modify j (fun e => { e with key := key }) = es := by
      apply Array.ext'
      rw [Array.toList_modify, modify_eq_set _ _ j e0 h2]
      have : ({ e0 with key := key } : MapEntry) = e0 := by rw [← h3]
      rw [this]
      apply List.ext_getElem?
      intro i
      by_cases c : j = i
      · subst c
        rw [List.getElem?_set_self (by simpa using hjl), h2]
      · rw [List.getElem?_set_ne c]
    have idx : es.findIdx? (fun e => (e.born : Int) == (e0.born : Int)) = some j := by
      rw [Array.findIdx?_eq_some_iff_getElem]
      have ej : es[j] = e0 := (Array.getElem?_eq_some_iff.1 hj).2
      refine ⟨hjl, by rw [ej]; simp, fun i hi => ?_⟩
      have hil : i < es.size := Nat.lt_trans hi hjl
      have nd := F.stamped.2.1
      simp only [beq_iff_eq, Bool.not_eq_true, beq_eq_false_iff_ne, ne_eq]
      intro e
      have e' : (es.toList.map (·.born))[i]? = (es.toList.map (·.born))[j]? := by
        rw [List.getElem?_map, List.getElem?_map, Array.getElem?_toList, Array.getElem?_toList, Array.getElem?_eq_getElem hil, hj]
        have : (es[i].born : Int) = (e0.born : Int) := e
        have q : es[i].born = e0.born := by omega
        simp [q]
      have := (List.getElem?_inj (by simpa using hil) nd).1 e'
      omega
    refine ⟨setBlock w b (.map es clock), e0.val, e0.born, ?_, ⟨es, clock, j, heap_setBlock_same hb _, idx, fun val => ?_⟩, gr _ _⟩
    · simp [Instr.mapEntry, run_underlying undJM, MapKept.run_getObj_map hb, keyI.check w false hkey, h1, hj, h3, keyI.stays w hkey, MapKept.run_setObj_map _ hb, Result.andThen, setBlock, same]
    · obtain ⟨es', clock', hrun, F', hput, _⟩ := st val
      have hr : (Instr.mapUpdate 58 (.map (some b)) key val).run Tryz.prog w = .ok () (setBlock w b (.map (es.modify j (fun e' => { e' with key := key, val := val })) clock)) := by
        simp [Instr.mapUpdate, run_underlying undJM, MapKept.run_getObj_map hb, keyI.check w false hkey, h1, hj, h3, keyI.stays w hkey, MapKept.run_setObj_map _ hb, Result.andThen, setBlock]
      rw [hr] at hrun
      injection hrun with _ e
      obtain ⟨rfl, rfl⟩ := setBlock_inj hb e
      have q : es.modify j (fun e => { e with val := val }) = es.modify j (fun e' => { e' with key := key, val := val }) := by
        apply Array.ext'
        rw [Array.toList_modify, Array.toList_modify, modify_eq_set _ _ j e0 h2, modify_eq_set _ _ j e0 h2, ← h3]
      rw [q]
      exact ⟨F', by omega, by rw [DataW.put_eq, hput]⟩
theorem entryStore_own {w : World} {b n : Nat} {D : DataW Value} {kl : Lit} {st : Nat} (h : Pend w b n D kl st) (val : Value) :
    ∃ w', (Instr.entryStore 58 (.map (some b)) (goInt (st : Nat)) val).run Tryz.prog w = .ok () w' ∧ w'.ownsMap Tryz.prog 2 RV b (n + 1) (D.put kl (.held val)) ∧ w.grownBy w' (some b) := by
  obtain ⟨es, clock, i, hb, hi, hv⟩ := h
  obtain ⟨F, hs, hD⟩ := hv val
  refine ⟨setBlock w b (.map (es.modify i fun e => { e with val := val }) clock), ?_, ⟨_, _, heap_setBlock_same hb _, F, by simpa using hs, hD⟩, ⟨rfl, rfl, rfl, by simp [setBlock], fun k _ hk => heap_setBlock_other hb _ (fun e => hk (by rw [e]))⟩⟩
  simp [Instr.entryStore, MapKept.run_getObj_map hb, goInt, asInt, asIntOf, hi, MapKept.run_setObj_map _ hb, Result.andThen, setBlock]
end Go.Proofs.YtoacnglcneliiaaGreatDoor
