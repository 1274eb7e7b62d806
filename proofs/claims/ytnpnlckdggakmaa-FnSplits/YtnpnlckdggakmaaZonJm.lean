/-
  A map of one's own with sets of floors as keys: looked up, an entry made, an entry stored; what it tells.
-/
import Derived.Test.YtnpnlckdggakmaaZonO
import Derived.Maps.OwnSet
import Derived.Maps.RangeWalk
namespace Go.Proofs.Ytnpnlckdggakmaa
open Go.RowKit Pl Go.Maps Go.ChangeMaps Go.MapKept
open Go.WideElems (Fit rd rg pl)
set_option linter.unusedSimpArgs false
set_option linter.unusedVariables false

/-- An element reads as itself. -/
def RVZ (v : Value) : Option (DataW Value × List MemPlace) := some (.held v, [])
theorem zeroZ (w : World) : (zeroValue 2).run Try.prog w = .ok (.int .i64 0) w := by kernel_rfl
theorem setBlock_injZ {w : World} {b : Nat} {es es1 es2 : Array MapEntry} {c c1 c2 : Nat} (hb : w.heap[b]? = some (.map es c)) (h : setBlock w b (.map es1 c1) = setBlock w b (.map es2 c2)) : es1 = es2 ∧ c1 = c2 := by
  have e := (heap_setBlock_same hb (.map es1 c1)).symm.trans ((congrArg (fun z : World => z.heap[b]?) h).trans (heap_setBlock_same hb (.map es2 c2)))
  have e2 := Option.some.inj e
  injection e2 with e3 e4
  exact ⟨e3, e4⟩
/-- An entry of the key was made, under the stamp st: what is stored there stands at the key. -/
def PendZ (w : World) (b n : Nat) (D : DataW Value) (kl : Lit) (st : Nat) : Prop :=
  ∃ es clock i, w.heap[b]? = some (.map es clock) ∧ es.findIdx? (fun e => (e.born : Int) == (st : Int)) = some i ∧
    ∀ val, Fit Try.prog 61 RVZ (es.modify i fun e => { e with val := val }) clock ∧ es.size ≤ n + 1 ∧ D.put kl (.held val) = .map (((es.modify i fun e => { e with val := val }).toList.map (rg Try.prog 61 RVZ)).foldr DataW.insert [])
theorem PendZ.of {w w' : World} {b n : Nat} {D : DataW Value} {kl : Lit} {st : Nat} (h : PendZ w b n D kl st) (e : w'.heap[b]? = w.heap[b]?) : PendZ w' b n D kl st := by
  obtain ⟨es, clock, i, hb, r⟩ := h
  exact ⟨es, clock, i, e.trans hb, r⟩
theorem PendZ.lt {w : World} {b n : Nat} {D : DataW Value} {kl : Lit} {st : Nat} (h : PendZ w b n D kl st) : b < w.heap.size := by
  obtain ⟨es, clock, i, hb, r⟩ := h
  exact (Array.getElem?_eq_some_iff.1 hb).1
theorem PendZ.below {w w' : World} {b n B : Nat} {D : DataW Value} {kl : Lit} {st : Nat} (h : PendZ w b n D kl st) (hb : Below B w w') (hB : b < B) : PendZ w' b n D kl st := h.of (hb.block b hB)
theorem PendZ.alloc {w : World} {b n : Nat} {D : DataW Value} {kl : Lit} {st : Nat} (h : PendZ w b n D kl st) (o : Obj) : PendZ (w.alloc o) b n D kl st := h.of (Below.heap_alloc w o b h.lt)
theorem own_belowZ {w w' : World} {b n B : Nat} {D : DataW Value} (h : w.ownsMap Try.prog 61 RVZ b n D) (hb : Below B w w') (hB : b < B) : w'.ownsMap Try.prog 61 RVZ b n D := by
  obtain ⟨es, clock, h1, r⟩ := h
  exact ⟨es, clock, (hb.block b hB).trans h1, r⟩
theorem own_ltZ {w : World} {b n : Nat} {D : DataW Value} (h : w.ownsMap Try.prog 61 RVZ b n D) : b < w.heap.size := by
  obtain ⟨es, clock, h1, r⟩ := h
  exact (Array.getElem?_eq_some_iff.1 h1).1
theorem idx_lastZ {es : Array MapEntry} {clock : Nat} (hs : Stamped es clock) (key val : Value) : (es.push ⟨key, val, clock⟩).findIdx? (fun e => (e.born : Int) == (clock : Int)) = some es.size := by
  rw [Array.findIdx?_eq_some_iff_getElem]
  refine ⟨by simp, by simp, fun j hj => ?_⟩
  have hj' : j < es.size := hj
  simp only [Array.getElem_push_lt hj']
  have hb := hs.1 es[j] (by simp)
  simp only [beq_iff_eq, Bool.not_eq_true, beq_eq_false_iff_ne, ne_eq]
  intro e
  have : (es[j].born : Int) = (clock : Int) := e
  omega
theorem modify_lastZ (es : Array MapEntry) (key v val : Value) (clock : Nat) : (es.push ⟨key, v, clock⟩).modify es.size (fun e => { e with val := val }) = es.push ⟨key, val, clock⟩ := by
  apply Array.ext'
  rw [Array.toList_modify, modify_eq_set _ _ es.size ⟨key, v, clock⟩ (by simp)]
  simp
theorem mapEntry_ownZ {w : World} {b n : Nat} {D : DataW Value} (h : w.ownsMap Try.prog 61 RVZ b n D) (hn : n < maxLen) {key : Value} {kl : Lit} (hkey : keyOf Try.prog 61 key = some kl) :
    ∃ w' v st, (Instr.mapEntry 82 (.map (some b)) key).run Try.prog w = .ok (.tuple #[v, goInt (st : Nat)]) w' ∧ PendZ w' b n D kl st ∧ w'.ownsMap Try.prog 61 RVZ b (n + 1) (D.put kl (.held v)) ∧ (Instr.lookup 82 (.map (some b)) key false).run Try.prog w = .ok v w ∧ w.grownBy w' (some b) := by
  obtain ⟨es, clock, hb, F, hs, rfl⟩ := h
  have hroom : es.size < maxLen := Nat.lt_of_le_of_lt hs hn
  have gr : ∀ es' c', w.grownBy (setBlock w b (.map es' c')) (some b) := fun es' c' => ⟨rfl, rfl, rfl, by simp [setBlock], fun i _ hi => heap_setBlock_other hb _ (fun e => hi (by rw [e]))⟩
  have st := fun val => Maps.fit_store (R' := RVZ) (val := val) lawF undZM hb F hroom (fun _ _ _ _ hz => hz) hkey rfl
  rcases lawF.find w hkey es.toList F.keys with ⟨h1, h2⟩ | ⟨j, e0, h1, h2, h3⟩
  · refine ⟨setBlock w b (.map (es.push ⟨key, .int .i64 0, clock⟩) (clock + 1)), .int .i64 0, clock, ?_, ⟨_, _, es.size, heap_setBlock_same hb _, idx_lastZ F.stamped _ _, fun val => ?_⟩, ?_, ?_, gr _ _⟩
    · simp [Instr.mapEntry, run_underlying undZM, MapKept.run_getObj_map hb, lawF.check w false hkey, h1, zeroZ, MapKept.run_setObj_map _ hb, Result.andThen, setBlock]
    · obtain ⟨es', clock', hrun, F', hput, _⟩ := st val
      have hr : (Instr.mapUpdate 82 (.map (some b)) key val).run Try.prog w = .ok () (setBlock w b (.map (es.push ⟨key, val, clock⟩) (clock + 1))) := by
        simp [Instr.mapUpdate, run_underlying undZM, MapKept.run_getObj_map hb, lawF.check w false hkey, h1, MapKept.run_setObj_map _ hb, Result.andThen, setBlock]
      rw [hr] at hrun
      injection hrun with _ e
      obtain ⟨rfl, rfl⟩ := setBlock_injZ hb e
      rw [modify_lastZ]
      exact ⟨F', by simp; omega, by rw [DataW.put_eq, hput]⟩
    · obtain ⟨es', clock', hrun, F', hput, _⟩ := st (.int .i64 0)
      have hr : (Instr.mapUpdate 82 (.map (some b)) key (.int .i64 0)).run Try.prog w = .ok () (setBlock w b (.map (es.push ⟨key, .int .i64 0, clock⟩) (clock + 1))) := by
        simp [Instr.mapUpdate, run_underlying undZM, MapKept.run_getObj_map hb, lawF.check w false hkey, h1, MapKept.run_setObj_map _ hb, Result.andThen, setBlock]
      rw [hr] at hrun
      injection hrun with _ e
      obtain ⟨rfl, rfl⟩ := setBlock_injZ hb e
      exact ⟨_, _, heap_setBlock_same hb _, F', by simp; omega, by rw [DataW.put_eq, hput]⟩
    · simp [Instr.lookup, run_underlying undZM, MapKept.run_getObj_map hb, lawF.check w es.isEmpty hkey, h1, zeroZ, Result.andThen]
  · have hj : es[j]? = some e0 := by simpa using h2
    have hjl : j < es.size := (Array.getElem?_eq_some_iff.1 hj).1
    have same : es.modify j (fun e => { e with key := key }) = es := by
      apply Array.ext'
      rw [Array.toList_modify, modify_eq_set _ _ j e0 h2]
      have : ({ e0 with key := key } : MapEntry) = e0 := by rw [← h3]
      rw [this]
      apply List.ext_getElem?
      intro i
      by_cases c : j = i
      · subst c
        rw [List.getElem?_set_self (by simpa using hjl), h2]
      · rw [List.getElem?_set_ne c]
    have idx : es.findIdx? (fun e => (e.born : Int) == (e0.born : Int)) = some j := by
      rw [Array.findIdx?_eq_some_iff_getElem]
      have ej : es[j] = e0 := (Array.getElem?_eq_some_iff.1 hj).2
      refine ⟨hjl, by rw [ej]; simp, fun i hi => ?_⟩
      have hil : i < es.size := Nat.lt_trans hi hjl
      have nd := F.stamped.2.1
      simp only [beq_iff_eq, Bool.not_eq_true, beq_eq_false_iff_ne, ne_eq]
      intro e
      have e' : (es.toList.map (·.born))[i]? = (es.toList.map (·.born))[j]? := by
        rw [List.getElem?_map, List.getElem?_map, Array.getElem?_toList, Array.getElem?_toList, Array.getElem?_eq_getElem hil, hj]
        have : (es[i].born : Int) = (e0.born : Int) := e
        have q : es[i].born = e0.born := by omega
        simp [q]
      have := (List.getElem?_inj (by simpa using hil) nd).1 e'
      omega
    refine ⟨setBlock w b (.map es clock), e0.val, e0.born, ?_, ⟨es, clock, j, heap_setBlock_same hb _, idx, fun val => ?_⟩, ?_, ?_, gr _ _⟩
    · simp [Instr.mapEntry, run_underlying undZM, MapKept.run_getObj_map hb, lawF.check w false hkey, h1, hj, h3, lawF.stays w hkey, MapKept.run_setObj_map _ hb, Result.andThen, setBlock, same]
    · obtain ⟨es', clock', hrun, F', hput, _⟩ := st val
      have hr : (Instr.mapUpdate 82 (.map (some b)) key val).run Try.prog w = .ok () (setBlock w b (.map (es.modify j (fun e' => { e' with key := key, val := val })) clock)) := by
        simp [Instr.mapUpdate, run_underlying undZM, MapKept.run_getObj_map hb, lawF.check w false hkey, h1, hj, h3, lawF.stays w hkey, MapKept.run_setObj_map _ hb, Result.andThen, setBlock]
      rw [hr] at hrun
      injection hrun with _ e
      obtain ⟨rfl, rfl⟩ := setBlock_injZ hb e
      have q : es.modify j (fun e => { e with val := val }) = es.modify j (fun e' => { e' with key := key, val := val }) := by
        apply Array.ext'
        rw [Array.toList_modify, Array.toList_modify, modify_eq_set _ _ j e0 h2, modify_eq_set _ _ j e0 h2, ← h3]
      rw [q]
      exact ⟨F', by omega, by rw [DataW.put_eq, hput]⟩
    · obtain ⟨es', clock', hrun, F', hput, _⟩ := st e0.val
      have hr : (Instr.mapUpdate 82 (.map (some b)) key e0.val).run Try.prog w = .ok () (setBlock w b (.map (es.modify j (fun e' => { e' with key := key, val := e0.val })) clock)) := by
        simp [Instr.mapUpdate, run_underlying undZM, MapKept.run_getObj_map hb, lawF.check w false hkey, h1, hj, h3, lawF.stays w hkey, MapKept.run_setObj_map _ hb, Result.andThen, setBlock]
      rw [hr] at hrun
      injection hrun with _ e
      obtain ⟨rfl, rfl⟩ := setBlock_injZ hb e
      have q : es.modify j (fun e' => { e' with key := key, val := e0.val }) = es := by
        apply Array.ext'
        rw [Array.toList_modify, modify_eq_set _ _ j e0 h2]
        have : ({ e0 with key := key, val := e0.val } : MapEntry) = e0 := by rw [← h3]
        rw [this]
        apply List.ext_getElem?
        intro i
        by_cases c : j = i
        · subst c
          rw [List.getElem?_set_self (by simpa using hjl), h2]
        · rw [List.getElem?_set_ne c]
      rw [q] at F' hput
      exact ⟨_, _, heap_setBlock_same hb _, F', by omega, by rw [DataW.put_eq]; exact congrArg DataW.map hput.symm⟩
    · simp [Instr.lookup, run_underlying undZM, MapKept.run_getObj_map hb, lawF.check w es.isEmpty hkey, h1, hj, Result.andThen]
theorem entryStore_ownZ {w : World} {b n : Nat} {D : DataW Value} {kl : Lit} {st : Nat} (h : PendZ w b n D kl st) (val : Value) :
    ∃ w', (Instr.entryStore 82 (.map (some b)) (goInt (st : Nat)) val).run Try.prog w = .ok () w' ∧ w'.ownsMap Try.prog 61 RVZ b (n + 1) (D.put kl (.held val)) ∧ w.grownBy w' (some b) := by
  obtain ⟨es, clock, i, hb, hi, hv⟩ := h
  obtain ⟨F, hs, hD⟩ := hv val
  refine ⟨setBlock w b (.map (es.modify i fun e => { e with val := val }) clock), ?_, ⟨_, _, heap_setBlock_same hb _, F, by simpa using hs, hD⟩, ⟨rfl, rfl, rfl, by simp [setBlock], fun k _ hk => heap_setBlock_other hb _ (fun e => hk (by rw [e]))⟩⟩
  simp [Instr.entryStore, MapKept.run_getObj_map hb, goInt, asInt, asIntOf, hi, MapKept.run_setObj_map _ hb, Result.andThen, setBlock]
theorem bvs_inj {m n : Nat} (hm : m < 4096) (hn : n < 4096) (h : bvs m = bvs n) : m = n := by
  apply Nat.eq_of_testBit_eq
  intro f
  by_cases hf : f < 12
  · have a := bvs_get (m := m) hf
    have b := bvs_get (m := n) hf
    rw [h, b] at a
    have e : bN n f = bN m f := by
      have q := Option.some.inj a
      injection q
    unfold bN at e
    cases h1 : m.testBit f <;> cases h2 : n.testBit f <;> simp [h1, h2] at e ⊢
  · have e : (4096 : Nat) = 2 ^ 12 := rfl
    rw [bit_lt (n := 12) (by omega) (by omega), bit_lt (n := 12) (by omega) (by omega)]
theorem keyF_inj {m n : Nat} (hm : m < 4096) (hn : n < 4096) (h : keyF m = keyF n) : m = n := by
  have a := keyOf_F m
  have b := keyOf_F n
  rw [h] at a
  have e := lawF.inj a b
  injection e with e2
  have e3 := congrArg Array.toList e2
  exact bvs_inj hm hn (by simpa using e3)
theorem keyF_is (m : Nat) : WideAt.IsKeyLit (keyF m) := lawF.key (keyOf_F m)
/-- The block b is a map of at most n sets that reads as D. -/
structure MapZ (w : World) (b n : Nat) (D : DataW Value) : Prop where
  o : w.ownsMap Try.prog 61 RVZ b n D
theorem MapZ.lt {w : World} {b n : Nat} {D : DataW Value} (h : MapZ w b n D) : b < w.heap.size := own_ltZ h.o
theorem MapZ.below {w w' : World} {b n B : Nat} {D : DataW Value} (h : MapZ w b n D) (hb : Below B w w') (hB : b < B) : MapZ w' b n D := ⟨own_belowZ h.o hb hB⟩
theorem MapZ.alloc {w : World} {b n : Nat} {D : DataW Value} (h : MapZ w b n D) (o : Obj) : MapZ (w.alloc o) b n D := ⟨h.o.alloc o⟩
theorem MapZ.isMap {w : World} {b n : Nat} {D : DataW Value} (h : MapZ w b n D) : IsMap D := by
  obtain ⟨es, clock, _, _, _, e⟩ := h.o
  exact ⟨_, e⟩
/-- .. what it tells: how often each set was counted. -/
structure TZ (D : DataW Value) (zs : List Nat) : Prop where
  y : ∀ m, m ∈ zs → Maps.has D (keyF m) = true ∧ ∀ z, D.atKey (keyF m) z = .held (.int .i64 (zs.count m : Nat))
  only : ∀ kl, Maps.has D kl = true → ∃ m, m ∈ zs ∧ kl = keyF m
  bd : ∀ m ∈ zs, m < 4096
theorem TZ.empty : TZ (.map []) [] := ⟨fun m h => absurd h (by simp), fun kl h => by (first | cases h | simp [Maps.has] at h), fun m h => absurd h (by simp)⟩
theorem TZ.no {D : DataW Value} {zs : List Nat} (t : TZ D zs) {m : Nat} (hm : m < 4096) (h : m ∉ zs) : Maps.has D (keyF m) = false := by
  cases c : Maps.has D (keyF m) with
  | false => rfl
  | true =>
    obtain ⟨n, hn, e⟩ := t.only _ c
    exact absurd (keyF_inj hm (t.bd n hn) e ▸ hn) h
theorem TZ.put {D : DataW Value} {zs : List Nat} (t : TZ D zs) (hD : IsMap D) {m : Nat} (hm : m < 4096) : TZ (D.put (keyF m) (.held (.int .i64 ((zs.count m : Nat) + 1)))) (zs ++ [m]) := by
  refine ⟨fun i hi => ?_, fun kl hk => ?_, fun i hi => ?_⟩
  · by_cases e : i = m
    · subst e
      refine ⟨has_put_same hD (keyF_is _) _, fun z => ?_⟩
      rw [atKey_put_same hD (keyF_is _) _ z, List.count_append]
      simp
    · have hi' : i ∈ zs := by
        rcases List.mem_append.1 hi with q | q
        · exact q
        · exact absurd (List.mem_singleton.1 q) e
      have ne : keyF i ≠ keyF m := fun q => e (keyF_inj (t.bd i hi') hm q)
      obtain ⟨a, b⟩ := t.y i hi'
      refine ⟨(has_put_other ne _).trans a, fun z => ?_⟩
      rw [atKey_put_other ne _ z, b z, List.count_append, List.count_singleton, if_neg (by simpa using fun q => e q.symm)]
      rfl
  · by_cases e : kl = keyF m
    · exact ⟨m, by simp, e⟩
    · rw [has_put_other e] at hk
      obtain ⟨n, hn, q⟩ := t.only kl hk
      exact ⟨n, List.mem_append_left _ hn, q⟩
  · rcases List.mem_append.1 hi with q | q
    · exact t.bd i q
    · rw [List.mem_singleton.1 q]; exact hm
end Go.Proofs.Ytnpnlckdggakmaa
