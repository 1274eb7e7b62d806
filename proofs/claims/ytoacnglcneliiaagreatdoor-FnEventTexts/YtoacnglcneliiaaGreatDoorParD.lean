/-
  The program's lines; a word taken out of a row.
-/
import Derived.Test.YtoacnglcneliiaaGreatDoorParC
namespace Go.Proofs.YtoacnglcneliiaaGreatDoor
open Go.RowKit Go.Shelf Pl
set_option linter.unusedSimpArgs false
set_option linter.unusedVariables false

theorem cut_toS (k n cap : Nat) (hk : k ≤ cap) : ∀ (g : Nat) w, (Instr.slice 47 (.slice (some ⟨g, 0, none⟩) n cap) none (some (.int .i64 (k : Int))) none).run Tryz.prog w = .ok (.slice (some ⟨g, 0, none⟩) k cap) w := by
  intro g w
  obtain ⟨i, hi, h0, hs, hb⟩ := info_parts infoStr
  have he : Tryz.prog.elem 47 = 9 := by kernel_rfl
  have hu : Tryz.prog.underlying 47 = some (.slice (Tryz.prog.elem 47)) := by rw [he]; exact undStrs
  have hsz : (sizeOf (Tryz.prog.elem 47)).run Tryz.prog w = .ok 1 w := by
    rw [he]
    simp [sizeOf, typeInfo, hi, hs]
  rw [run_slice_h _ _ _ _ _ hu .i64 (k : Int) (by omega) (by omega), hsz, Int.toNat_natCast]
  simp [Result.andThen, sliced, Addr.add]
/-- How many lines a text has: what is behind the last line feed counts if it isn't empty. -/
def lnN (s : ByteArray) : Nat := if neB ((cutS s 10).getD ((cutS s 10).length - 1) ⟨#[]⟩) = true then (cutS s 10).length else (cutS s 10).length - 1
theorem lnN_le (s : ByteArray) : lnN s ≤ (cutS s 10).length := by unfold lnN; split <;> omega
theorem split_lines (s : ByteArray) (hs : s.size ≤ 1048576) (eu : Value) (W : World) (hV : Vr W eu) :
    Calls Tryz.prog 39 #[.string s, .string ⟨#[10]⟩] W fun e w' => ∃ g, e = .returned (.slice (some ⟨g, 0, none⟩) (cutS s 10).length (cutS s 10).length) ∧ OwS w' W.heap.size (.slice (some ⟨g, 0, none⟩) (cutS s 10).length (cutS s 10).length) (cutS s 10) ∧ Below W.heap.size W w' := by
  obtain ⟨m, hm⟩ := hV.ml
  refine (Any.strings_Split Par.split (by kernel_rfl) s ⟨#[10]⟩ m W (by omega) hm (Nat.le_refl 1)).mono ?_
  rintro e w' ⟨rfl, rfl⟩
  rw [split_cut, count_cut]
  refine ⟨W.heap.size, rfl, ?_, (Below.refl _ _).alloc (Nat.le_refl _) _⟩
  have hl := cutF_len s 10 s.size 0 0
  have q := World.ownsRow_lit (base := W.heap.size) (e := Par.split_ren.t 9) (size := 1) W ((cutS s 10).map Value.string).toArray (cutS s 10).length (Nat.le_refl _) (by unfold maxLen; show (cutF s 10 s.size 0 0).length ≤ _; omega) (by simp)
  show World.ownsRow _ _ (Par.split_ren.t 9) 1 _ _ _
  simpa [strsV] using q
set_option maxRecDepth 20000 in
set_option maxHeartbeats 16000000 in
theorem linesIn_any (s : ByteArray) (hs : s.size ≤ 1048576) (eu : Value) (w : World) (hV : Vr w eu) :
    Calls Tryz.prog 19 #[.string s] w fun e w' => ∃ g cap, e = .returned (.slice (some ⟨g, 0, none⟩) (lnN s) cap) ∧ w.heap.size ≤ g ∧ g < w'.heap.size ∧ (∀ i x, (cutS s 10)[i]? = some x → w'.cell? ⟨g, i, none⟩ = some (.string x)) ∧ Below w.heap.size w w' := by
  have HV : Hid (Vr w eu) := hV
  have CS := fun W h => split_lines s hs eu W h
  have hne := cutF_ne s 10 s.size 0 0
  have hlen := cutF_len s 10 s.size 0 0
  rw [show cutF s 10 s.size 0 0 = cutS s 10 from rfl] at hne hlen
  obtain ⟨L, hL⟩ : ∃ L, cutS s 10 = L := ⟨_, rfl⟩
  have HN : Hid (lnN s = if neB (L.getD (L.length - 1) ⟨#[]⟩) = true then L.length else L.length - 1) := by rw [← hL]; rfl
  rw [hL] at CS hne hlen ⊢
  obtain ⟨k, hk⟩ : ∃ k, L.length = k + 1 := ⟨L.length - 1, by have := List.length_pos_iff.2 hne; omega⟩
  obtain ⟨x, hx⟩ : ∃ x, L[k]? = some x := ⟨_, List.getElem?_eq_getElem (by omega)⟩
  have hgd : L.getD (L.length - 1) ⟨#[]⟩ = x := by rw [hk, Nat.add_sub_cancel, List.getD_eq_getElem?_getD, hx]; rfl
  rw [hgd, hk, Nat.add_sub_cancel] at HN
  rw [hk] at CS
  clear hV hL hgd hne
  go_enter Tryz.func19, Tryz.ntmps19
  go_upto_region 2 with (go_at_call 39; refine (CS _ HV.out).mono ?_; rintro e w1 ⟨g, rfl, hown, hb⟩)
  have FB : Hid (Below w.heap.size w w1) := hb
  have FC : Hid (∀ i x, L[i]? = some x → w1.cell? ⟨g, i, none⟩ = some (.string x)) := fun i x hx => hown.cell hx
  have lg := hown.lt g rfl
  have c0 := FC.out k x hx
  have ek : IntKind.i64.wrap ((k : Int) + 1 - 1) = (k : Int) := IntWalk.i64_in _ (by omega) |>.trans (by omega)
  have ek2 : IntKind.i64.wrap (k : Int) = (k : Int) := IntWalk.i64_in _ (by omega)
  have ct := cut_toS k (k + 1) (k + 1) (by omega) g
  clear hown hb CS hx hk HV
  cases hn : neB x
  · have hem := toList_eq_nil x hn
    have HN2 : Hid (lnN s = k) := by rw [HN.out, hn]; rfl
    clear hn HN
    go_wp2_with fail
    go_ret
    rw [HN2.out]
    exact ⟨g, _, rfl, lg.1, lg.2, FC.out, FB.out⟩
  · have hem := toList_neq_nil x hn
    have hem2 : (x.toList == []) = false := by simpa using hem
    have hem3 : x.toList.isEmpty = false := by simpa using hem
    have HN2 : Hid (lnN s = k + 1) := by rw [HN.out, hn]; rfl
    clear hn HN
    go_wp2_with fail
    go_ret
    rw [HN2.out]
    exact ⟨g, _, rfl, lg.1, lg.2, FC.out, FB.out⟩
/-- A row without its second text. -/
def dl (l : List ByteArray) : List ByteArray := l.take 1 ++ l.drop 2
theorem dl_len (l : List ByteArray) (h : 2 ≤ l.length) : (dl l).length = l.length - 1 := by unfold dl; simp; omega
theorem belowSC {B A : Nat} {a : World} (hA : B ≤ A) : ∀ (vs : List Value) (o : Nat) (w : World), Below B a w → Below B a (w.setCells A o vs)
  | [], _, _, h => h
  | v :: vs, o, w, h => belowSC hA vs (o + 1) _ (h.setCell (p := ⟨A, o, none⟩) hA v)
theorem heapSC {A k : Nat} (hk : k ≠ A) : ∀ (vs : List Value) (o : Nat) (w : World), (w.setCells A o vs).heap[k]? = w.heap[k]?
  | [], _, _ => rfl
  | v :: vs, o, w => (heapSC hk vs (o + 1) _).trans (Below.heap_setCell w ⟨A, o, none⟩ v k hk)
theorem del_vals (l : List ByteArray) : (((Lib.strsOf (fun i => l.getD i ⟨#[]⟩) l.length).take 1 ++ (Lib.strsOf (fun i => l.getD i ⟨#[]⟩) l.length).drop 2 ++ List.replicate (2 - 1) []).map encStr) = (dl l ++ [(⟨#[]⟩ : ByteArray)]).map Value.string := by
  have hst : Lib.strsOf (fun i => l.getD i ⟨#[]⟩) l.length = l.map (fun x : ByteArray => x.data.toList) := by
    apply List.ext_getElem
    · simp [Lib.strsOf]
    · intro i h1 h2
      simp [Lib.strsOf, List.getD_eq_getElem?_getD, List.getElem?_eq_getElem (show i < l.length by simpa [Lib.strsOf] using h1)]
  have he : ∀ L : List ByteArray, (L.map (fun x : ByteArray => x.data.toList)).map encStr = L.map Value.string := by
    intro L
    rw [List.map_map]
    apply List.map_congr_left
    intro x _
    cases x
    simp [encStr]
  rw [hst, ← List.map_take, ← List.map_drop, List.map_append, List.map_append, he, he]
  unfold dl
  simp [encStr]
theorem del_row (l : List ByteArray) (A B : Nat) (w : World) (h2 : 2 ≤ l.length) (hl : l.length ≤ 2000000) (ho : OwS w B (.slice (some ⟨A, 0, none⟩) l.length l.length) l) :
    Calls Tryz.prog 65 #[.slice (some ⟨A, 0, none⟩) l.length l.length, .int .i64 1, .int .i64 2] w fun e w' => e = .returned (.slice (some ⟨A, 0, none⟩) (l.length - 1) l.length) ∧ (∀ i x, (dl l)[i]? = some x → w'.cell? ⟨A, i, none⟩ = some (.string x)) ∧ A < w'.heap.size ∧ Below B w w' ∧ (∀ k, k < w.heap.size → k ≠ A → w'.heap[k]? = w.heap[k]?) := by
  have hA := ho.lt A rfl
  have hcell : ∀ i, i < l.length → w.cell? ⟨A, i, none⟩ = some (.string (l.getD i ⟨#[]⟩)) := fun i hi => ho.cell (by rw [List.getD_eq_getElem?_getD, List.getElem?_eq_getElem hi]; rfl)
  refine (Any.slices_Delete_string_cells Par.del A 0 l.length l.length 1 2 (fun i => l.getD i ⟨#[]⟩) w (Nat.le_refl _) (by omega) (by omega) h2 (fun i hi => by rw [Nat.zero_add]; exact hcell i hi) (fun j hj => World.ownsRow.frozenAt ho _)).mono ?_
  rintro e w' ⟨rfl, q, rfl⟩
  rw [del_vals l]
  have hdl := dl_len l h2
  have hb : Below B w (w.drewN q) := (below_drewNg w q).mono (Nat.le_trans hA.1 (Nat.le_of_lt hA.2))
  have hb2 : Below B w ((w.drewN q).setCells A 0 ((dl l ++ [(⟨#[]⟩ : ByteArray)]).map Value.string)) := belowSC hA.1 _ _ _ hb
  refine ⟨by first | rfl | congr 1, ?_, Nat.lt_of_lt_of_le hA.2 hb2.size, hb2, fun k hk hne => (heapSC hne _ _ _).trans ((below_drewNg w q).block k hk)⟩
  intro i x hx
  have hi : i < (dl l).length := (List.getElem?_eq_some_iff.1 hx).1
  have hlen : ((dl l ++ [(⟨#[]⟩ : ByteArray)]).map Value.string).length = l.length := by simp; omega
  have q2 := World.cell?_setCells_in A ((dl l ++ [(⟨#[]⟩ : ByteArray)]).map Value.string) 0 (w.drewN q) (fun j hj => by
    rw [Nat.zero_add]
    rw [hlen] at hj
    have : (w.drewN q).cell? ⟨A, j, none⟩ = w.cell? ⟨A, j, none⟩ := (below_drewNg w q).cell (p := ⟨A, j, none⟩) hA.2
    rw [this, hcell j hj]; rfl) i (by rw [hlen]; omega)
  rw [Nat.zero_add] at q2
  rw [q2]
  have hx2 : (dl l)[i]'hi = x := (List.getElem?_eq_some_iff.1 hx).2
  simp only [List.map_append]
  rw [List.getElem_append_left (by simpa using hi)]
  simp [hx2]
end Go.Proofs.YtoacnglcneliiaaGreatDoor
