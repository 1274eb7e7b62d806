/-
  What was seen: the journeys' ids, sorted (the library's contracts); StatesOf, the program.
-/
import Derived.Test.YtdklllfafafmeaaEvY
import Derived.Test.YtdklllfafafmeaaEvV
import Derived.Test.YtdklllfafafmeaaShk
import Derived.Test.YtdklllfafafmeaaInts
namespace Go.Proofs.Ytdklllfafafmeaa
open Go.RowKit Go.Maps Go.Sort Go.Shelf Pl
set_option linter.unusedSimpArgs false
set_option linter.unusedVariables false

theorem sortsJ (m : Nat) : AnyZI.SortsIn Try.prog Shk.sorted_ren Fence.wide m :=
  ⟨fun blk off cap ss W hH hblk hsz => callsIn_wide.2 (AnyM.slices_Sort_int Shk.sort blk off cap ss W hH hblk hsz),
   fun p cap W => callsIn_wide.2 (AnyM.slices_Sort_int_none Shk.sort p cap W)⟩
theorem keysJ_any (mb : Option Nat) (W : World) :
    Calls Try.prog 20 #[.map mb] W fun e w' => e = .returned (.func (.func 35) #[] #[.pointer (some ⟨W.heap.size, 0, none⟩)]) ∧ w' = W.alloc (.cells #[.map mb] 47) :=
  (callsIn_wide (n := 5)).1 (AnyZI.keys_in Shk.keys Fence.wide 5 trivial rfl mb W)
set_option maxHeartbeats 1000000 in
theorem sortedJ_any (b nn : Nat) (D : DataW Value) (w : World) (hown : w.ownsMap Try.prog 2 RV b nn D) (hmax : Maps.size D ≤ 200000) :
    Calls Try.prog 19 #[.func (.func 35) #[] #[.pointer (some ⟨w.heap.size, 0, none⟩)]] (w.alloc (.cells #[.map (some b)] 47)) fun e w' => ∃ (v : Value) (ss : List Int), e = .returned v ∧ ss.Perm (intKeys D) ∧
      w'.ownsRow (w.alloc (.cells #[.map (some b)] 47)).heap.size 2 1 v ss.length ((ss.mergeSort (fun x y => decide (x ≤ y))).map encZ) ∧ (v = .slice none 0 0 ↔ ss = []) ∧ Below (w.alloc (.cells #[.map (some b)] 47)).heap.size (w.alloc (.cells #[.map (some b)] 47)) w' := by
  refine (callsIn_wide (n := 5)).1 ?_
  have hbl := hown.lt
  have hseq : SeqGives Fence.wide 2 Try.prog 35 #[.pointer (some ⟨w.heap.size, 0, none⟩)] encZ (fun ss => ss.Perm (intKeys D)) (Maps.size D) (w.alloc (.cells #[.map (some b)] 47)) :=
    AnyZI.keys_gives (ρ := Shk.keys_ren) { Shk.keys with } Fence.wide _ trivial rfl (by omega) w.heap.size b nn D _ (by simp) (by simp) (by
      obtain ⟨es, clock, hb, Ft, hs, hD⟩ := hown
      exact ⟨es, clock, (Below.heap_alloc _ _ b hbl).trans hb, Ft, hs, hD⟩)
  exact AnyZI.sorted_in Shk.sorted Fence.wide 5 trivial trivial trivial trivial rfl (by omega) (sortsJ _) (enters_of Try.func34 (by kernel_rfl) rfl) 35 #[.pointer (some ⟨w.heap.size, 0, none⟩)] trivial (enters_of Try.func35 (by kernel_rfl) rfl) _ _ (by unfold maxLen; omega) (by omega) _ hseq
theorem ids_perm {h : Hs} {l : List Ev} {D : DataW Value} {w : World} {b n : Nat} (hm : MapJ w b n D) (ht : TD D (jOf l)) (hj : Jt l) (hk : Hs.tr h l = 0) : (idsP 1 l).Perm (intKeys D) := by
  obtain ⟨_, _, hc⟩ := tr_codes hk
  have hn : (idsP 1 l).Nodup := by
    have q := calls_once (h := h) l.length (Nat.le_refl _) hc
    rw [List.take_length] at q
    exact q
  have c : CollectedI D (fun _ => false) (idsP 1 l) := by
    refine ⟨hn, fun x => ?_⟩
    rw [call_in]
    rcases hj.a x with ⟨j1, j2⟩ | ⟨j, j1, j2, _⟩
    · rw [j2, ht.n x j1]; simp
    · rw [j2, (ht.y x j j1).1]; simp
  exact c.perm hm.o keyI undI64 (fun _ => rfl)
theorem size_ids {h : Hs} {l : List Ev} {D : DataW Value} {w : World} {b n : Nat} (hm : MapJ w b n D) (ht : TD D (jOf l)) (hj : Jt l) (hk : Hs.tr h l = 0) : Maps.size D ≤ l.length := by
  have p := (ids_perm hm ht hj hk).length_eq
  obtain ⟨es, he⟩ := hm.isMap
  have e : Maps.size D = (intKeys D).length := by rw [he]; simp [Maps.size, intKeys]
  rw [e, ← p]
  unfold idsP
  rw [List.length_map]
  exact List.length_filter_le _ _
/-- The keys are the ids that called. -/
theorem keys_ids {h : Hs} {l : List Ev} {D : DataW Value} {w : World} {b n : Nat} (hm : MapJ w b n D) (ht : TD D (jOf l)) (hj : Jt l) (hk : Hs.tr h l = 0) {ss : List Int} (hp : ss.Perm (intKeys D)) : ss.mergeSort (fun x y => decide (x ≤ y)) = idsM 1 l := by
  have p2 := ids_perm hm ht hj hk
  have hs := idsM_at (kd := 1) (l := l) l.length (Nat.le_refl _)
  rw [List.take_length] at hs
  exact sorted_one (sort_sorted ss) hs.1 (((List.mergeSort_perm ss _).trans hp).trans (p2.symm.trans hs.2.1.symm))
theorem info64p : ∃ i, Try.prog.info? 2 = some i ∧ i.zero = some (.int .i64 0) ∧ i.size = 1 ∧ i.bytes = 8 := by
  obtain ⟨i, h1, h2, h3, h4⟩ := info_parts info64
  exact ⟨i, h1, h2, h3, h4⟩
set_option maxRecDepth 20000 in
theorem look_jn1 {w : World} {b n : Nat} {D : DataW Value} {f : Int → Option Jn} (h : MapJ w b n D) (t : TD D f) (id : Int) (j : Jn) (hj : f id = some j) (hw : (Lit.int .i64 id).wf = true) :
    (Instr.lookup 47 (.map (some b)) (.int .i64 id) false).run Try.prog w = .ok (jval j) w := by
  obtain ⟨v, ps, hrun, hv⟩ := h.o.lookup keyI undJM (zeroJ w) (zd := .held (.agg #[.int .i64 0, .int .i64 0, .int .i64 0, .int .i64 0, .int .i64 0, .int .i64 0, .int .i64 0])) (zp := []) rfl (keyOf_int_mk undI64 hw)
  rw [hrun]
  have e : (DataW.held v : DataW Value) = D.atKey (.int .i64 id) (.held (.agg #[.int .i64 0, .int .i64 0, .int .i64 0, .int .i64 0, .int .i64 0, .int .i64 0, .int .i64 0])) := by
    have q := Option.some.inj hv
    exact congrArg Prod.fst q
  rw [(t.y id j hj).2] at e
  injection e with e
  rw [e]
theorem MapJ.kept {w w' : World} {b n : Nat} {D : DataW Value} {row : Option Nat} (h : MapJ w b n D) (hg : w.grownBy w' row) (hne : row ≠ some b) : MapJ w' b n D := by
  have hl := h.lt
  obtain ⟨es, clock, hb, F, hs, hD⟩ := h.o
  exact ⟨es, clock, (hg.block b hl (fun q => hne q.symm)).trans hb, F, hs, hD⟩
theorem own_of_sorted {w : World} {B : Nat} {v : Value} {ss L : List Int} (h : w.ownsRow B 2 1 v ss.length ((ss.mergeSort (fun x y => decide (x ≤ y))).map encZ)) (e : ss.mergeSort (fun x y => decide (x ≤ y)) = L) : OwI w B v L := by
  have hl : ss.length = L.length := by rw [← e]; exact (List.length_mergeSort ss).symm
  rw [e, hl] at h
  exact h
theorem id_in {ss : List Int} {D : DataW Value} {x : Int} (hp : ss.Perm (intKeys D)) (hx : x ∈ ss.mergeSort (fun x y => decide (x ≤ y))) : x ∈ intKeys D := hp.mem_iff.1 ((List.mergeSort_perm ss _).mem_iff.1 hx)
end Go.Proofs.Ytdklllfafafmeaa
