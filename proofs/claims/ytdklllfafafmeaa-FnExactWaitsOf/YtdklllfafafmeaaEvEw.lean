/-
  What was seen: WaitsOf, the model.
-/
import Derived.Test.YtdklllfafafmeaaEvE
import Derived.Test.YtdklllfafafmeaaEvC
namespace Go.Proofs.Ytdklllfafafmeaa
open Go.RowKit Pl
set_option linter.unusedSimpArgs false
set_option linter.unusedVariables false

/-- An event in a block of its own. -/
structure BlkE (w : World) (b : Nat) (vs : List Value) : Prop where
  o : w.heap[b]? = some (.cells vs.toArray 42 (0, 0))
theorem BlkE.k {w : World} {b : Nat} {vs : List Value} (a : BlkE w b vs) : Blk w b vs := ⟨_, a.o⟩
theorem BlkE.lt {w : World} {b : Nat} {vs : List Value} (a : BlkE w b vs) : b < w.heap.size := a.k.lt
theorem BlkE.below {W w : World} {b B : Nat} {vs : List Value} (a : BlkE W b vs) (hb : Below B W w) (hB : b < B) : BlkE w b vs := ⟨(hb.block b hB).trans a.o⟩
theorem BlkE.alloc {W : World} {b : Nat} {vs : List Value} (a : BlkE W b vs) (ob : Obj) : BlkE (W.alloc ob) b vs := ⟨(Below.heap_alloc W ob b a.lt).trans a.o⟩
theorem BlkE.other {W : World} {b k q : Nat} {u : Value} {vs : List Value} (a : BlkE W b vs) (hne : b ≠ k) : BlkE (W.setCell ⟨k, q, none⟩ u) b vs := ⟨(Below.heap_setCell W _ u b hne).trans a.o⟩
theorem BlkE.grown {W w : World} {b : Nat} {vs : List Value} {row : Option Nat} (a : BlkE W b vs) (hg : W.grownBy w row) (hne : some b ≠ row) : BlkE w b vs := ⟨(hg.block b a.lt hne).trans a.o⟩
theorem BlkE.new (w : World) (cs : Array Value) (b : Nat) (hb : b = w.heap.size) : BlkE (w.alloc (.cells cs 42)) b cs.toList := by
  subst hb
  exact ⟨by rw [Array.toArray_toList]; exact heap_alloc_new w _⟩
theorem own_ne {w : World} {B b : Nat} {v : Value} {l : List Int} {vs : List Value} (h : OwI w B v l) (e : BlkE w b vs) (q : v.ownBlock = some b) : False := by
  rcases h.2 with ⟨z, _⟩ | ⟨g, cap, cur, z, _, hg, _⟩
  · rw [z] at q; cases q
  · rw [z] at q
    injection q with q2
    have q3 : g = b := q2
    subst q3
    have z2 := hg.symm.trans e.o
    injection z2 with z3
    injection z3 with z4 z5
    exact absurd z5 (by decide)
theorem E5.grown {W w : World} {b o : Nat} {p : Ev} {row : Option Nat} (a : E5 W b o p) (hg : W.grownBy w row) (hne : some b ≠ row) : E5 w b o p := a.of (fun k => World.cell?_of_block (w := W) (hg.block b a.lt hne))
theorem E5.other {W : World} {b o k q : Nat} {u : Value} {p : Ev} (a : E5 W b o p) (hne : b ≠ k) : E5 (W.setCell ⟨k, q, none⟩ u) b o p := a.of (fun j => World.cell?_of_block (w := W) (Below.heap_setCell W ⟨k, q, none⟩ u b hne))
theorem boarded_called {h : Hs} {l : List Ev} (k : Hs.tr h l = 0) {x : Int} (hx : x ∈ idsM 2 l) : ∃ r, callOf l x = some r ∧ r ∈ l := by
  rw [ids_boarded k, List.mem_filter] at hx
  have h1 := idsM_at (kd := 1) (l := l) l.length (Nat.le_refl _)
  rw [List.take_length] at h1
  have q := call_in.1 (h1.2.1.mem_iff.1 hx.1)
  cases hc : callOf l x with
  | none => exact absurd hc q
  | some r =>
    refine ⟨r, rfl, ?_⟩
    unfold callOf at hc
    exact List.mem_of_find?_eq_some hc
theorem tick_in {h : Hs} {l : List Ev} (k : Hs.tr h l = 0) (e : Ev) (he : e ∈ l) : 0 ≤ e.tk ∧ e.tk ≤ 1000000000000000 := by
  obtain ⟨j, hj, q⟩ := List.mem_iff_getElem.1 he
  have c := (tr_codes k).2.2 j hj
  unfold Hs.codeI at c
  rw [List.getElem?_eq_getElem hj, q] at c
  dsimp only at c
  have ce : Hs.evC h e = 0 := by
    split at c
    · rename_i z; exact z
    · exact c
  unfold Hs.evC at ce
  split at ce
  · rename_i z
    have z1 := (Bool.and_eq_true _ _).mp z
    exact inB_iff.1 z1.1
  · cases ce
theorem flat_w {f : Int → List Int} (h : ∀ x, (f x).length ≤ 1) : ∀ l : List Int, (l.flatMap f).length ≤ l.length
  | [] => Nat.le_refl _
  | x :: xs => by
    rw [List.flatMap_cons, List.length_append, List.length_cons]
    have := flat_w h xs
    have := h x
    omega
theorem waits_one {h : Hs} {l : List Ev} (k : Hs.tr h l = 0) (x : Int) : (waitsAt l x).length ≤ 1 := by
  unfold waitsAt
  rw [List.length_map]
  exact boards_one k x
theorem waitsL_len (h : Hs) (l : List Ev) (hl : l.length ≤ 1048576) : (waitsL h l).length ≤ 1048576 := by
  unfold waitsL
  split
  · rename_i k
    have q := flat_w (f := waitsAt l) (fun x => waits_one k x) (idsM 1 l)
    have hs := idsM_at (kd := 1) (l := l) l.length (Nat.le_refl _)
    rw [List.take_length] at hs
    omega
  · exact Nat.zero_le _
theorem boards_le (l : List Ev) (x : Int) : (boards l x).length ≤ l.length := by
  unfold boards
  rw [List.length_map]
  exact List.length_filter_le _ _
set_option maxRecDepth 20000 in
set_option maxHeartbeats 32000000 in
theorem specWaits_any (h : Hs) (l : List Ev) (a : Option Addr) (cap : Nat) (hl : l.length ≤ 1048576) (hcap : l.length ≤ cap) (w : World) (hE : EIn w w.heap.size a l) :
    Calls Try.prog 5 #[.agg #[.int .i64 h.fl, .int .i64 h.gp, .int .i64 h.ln, .int .i64 h.rf, .int .i64 h.sp, .int .i64 h.pu, .int .i64 h.br, .int .i64 h.dr, .int .i64 h.lv, .int .i64 h.dO, .int .i64 h.ld, .int .i64 h.qu], .slice a l.length cap] w fun e w' => (∃ v, e = .returned (.agg #[.int .i64 (Hs.tr h l), v]) ∧ OwI w' w.heap.size v (waitsL h l)) ∧ Below w.heap.size w w' := by
  have HE : Hid (EIn w w.heap.size a l) := hE
  clear hE
  obtain ⟨b0, hb0⟩ : ∃ b0, b0 = w.heap.size := ⟨_, rfl⟩
  obtain ⟨b1, hb1⟩ : ∃ b1, b1 = b0 + 1 := ⟨_, rfl⟩
  obtain ⟨W0, hW0⟩ : ∃ W0, W0 = (w.alloc (.cells #[.int .i64 h.fl, .int .i64 h.gp, .int .i64 h.ln, .int .i64 h.rf, .int .i64 h.sp, .int .i64 h.pu, .int .i64 h.br, .int .i64 h.dr, .int .i64 h.lv, .int .i64 h.dO, .int .i64 h.ld, .int .i64 h.qu] 30)).alloc (.cells #[.int .i64 0, .slice none 0 0] 28) := ⟨_, rfl⟩
  have F0 : Hid (Blk W0 b0 [.int .i64 h.fl, .int .i64 h.gp, .int .i64 h.ln, .int .i64 h.rf, .int .i64 h.sp, .int .i64 h.pu, .int .i64 h.br, .int .i64 h.dr, .int .i64 h.lv, .int .i64 h.dO, .int .i64 h.ld, .int .i64 h.qu]) := by rw [hW0]; exact (Blk.at_ w #[.int .i64 h.fl, .int .i64 h.gp, .int .i64 h.ln, .int .i64 h.rf, .int .i64 h.sp, .int .i64 h.pu, .int .i64 h.br, .int .i64 h.dr, .int .i64 h.lv, .int .i64 h.dO, .int .i64 h.ld, .int .i64 h.qu] _ _ hb0).alloc _
  have F1 : Hid (Blk W0 b1 [.int .i64 0, .slice none 0 0]) := by rw [hW0]; exact Blk.at_ _ #[.int .i64 0, .slice none 0 0] _ _ (by simp; omega)
  have FB : Hid (Below w.heap.size w W0) := by rw [hW0]; exact ((Below.refl _ _).alloc (Nat.le_refl _) _).alloc (by simp) _
  have leb1 : w.heap.size ≤ b1 := by omega
  obtain ⟨T, hT⟩ : ∃ T, Hs.tr h l = T := ⟨_, rfl⟩
  have HT : Hid (Hs.tr h l = T) := hT
  have HST : Hid (waitsL h l = if T = 0 then (idsM 2 l).flatMap (waitsAt l) else []) := by
    show waitsL h l = _
    by_cases z : T = 0
    · rw [if_pos z]; exact waits_two (hT.trans z)
    · rw [if_neg z]; unfold waitsL; rw [hT, if_neg z]
  rw [hT]
  clear hT
  obtain ⟨SL, hSL⟩ : ∃ SL, waitsL h l = SL := ⟨_, rfl⟩
  rw [hSL]
  rw [hSL] at HST
  clear hSL
  go_enter Try.func5, Try.ntmps5
  go_upto_region 1 with fail
  rw [← hb0, ← hb1, ← hW0]
  clear hb0 hb1 hW0
  go_upto_region 2 with (first | (refine load_blk 30 _ Try.underlying30 (by kernel_rfl) F0.out rfl rfl rfl ?_) | (go_at_call 14; refine (specTrace_any h l a cap hl hcap _ ((HE.out.below FB.out (Nat.le_refl _)).mono FB.out.size)).mono ?_; rw [HT.out]; rintro e w1 ⟨rfl, hb⟩; have F1 : Hid (Blk w1 b1 [.int .i64 0, .slice none 0 0]) := F1.out.below hb F1.out.lt; have FB : Hid (Below w.heap.size w w1) := FB.out.trans (hb.mono FB.out.size); clear hb))
  by_cases hz : T = 0
  case neg =>
    have hn : (T != 0) = true := by simpa using hz
    have e0 : SL = [] := by have q := HST.out; rw [if_neg hz] at q; exact q
    have HO : Hid (OwI (w1.setRow b1 #[.int .i64 T, .slice none 0 0]) w.heap.size (.slice none 0 0) SL) := by rw [e0]; exact owi_nil _ _
    clear e0 hz
    go_wp2_with (refine store_blk [.int .i64 T, .slice none 0 0] 28 _ _ (by kernel_rfl) (by kernel_rfl) (by kernel_rfl) F1.out rfl rfl rfl rfl ?_)
    exact bodyPost_ret (v := .agg #[.int .i64 T, .slice none 0 0]) ((F1.out.row [.int .i64 T, .slice none 0 0]).res _ Try.results5 Try.underlying28 (by kernel_rfl) rfl) rfl ⟨⟨_, rfl, HO.out⟩, below_row FB.out leb1 _⟩
  case pos =>
  subst hz
  have htr := tr_codes HT.out
  have hl2 : l.length ≤ 200 := htr.2.1
  have hkd : ∀ x ∈ l, 1 ≤ x.kd ∧ x.kd ≤ 5 := by
    intro x hx
    obtain ⟨j, hj, e⟩ := List.mem_iff_getElem.1 hx
    have q := htr.2.2 j hj
    unfold Hs.codeI at q
    rw [List.getElem?_eq_getElem hj, e] at q
    dsimp only at q
    split at q
    · rename_i c
      have := evC_kd c
      omega
    · rename_i c
      exact absurd q c
  have HSL : Hid (SL = (idsM 2 l).flatMap (waitsAt l)) := by show SL = (idsM 2 l).flatMap (waitsAt l); have q := HST.out; simpa using q
  have hLl : (idsM 2 l).length ≤ 200 := by
    have hs := idsM_at (kd := 2) (l := l) l.length (Nat.le_refl _)
    rw [List.take_length] at hs
    omega
  have hone := fun x => waits_one HT.out x
  have htick := fun e he => tick_in HT.out e he
  have hcall : ∀ x ∈ idsM 2 l, ∃ r, callOf l x = some r ∧ r ∈ l := fun x hx => boarded_called HT.out hx
  clear htr HST HT F0
  go_upto_region 5 with (refine store_new [.int .i64 0, .slice none 0 0] 28 _ _ (by kernel_rfl) (by kernel_rfl) (by kernel_rfl) rfl rfl rfl rfl ?_)
  obtain ⟨b2, hbb⟩ : ∃ b2, b2 = w1.heap.size := ⟨_, rfl⟩
  obtain ⟨w2, hw2⟩ : ∃ w2, w2 = w1.alloc (.cells #[.int .i64 0, .slice none 0 0] 28) := ⟨_, rfl⟩
  have l12 : b1 < b2 := by rw [hbb]; exact F1.out.lt
  have leb2 : w.heap.size ≤ b2 := by omega
  have F1 : Hid (Blk w2 b1 [.int .i64 0, .slice none 0 0]) := by rw [hw2]; exact F1.out.alloc _
  have F2 : Hid (Blk w2 b2 [.int .i64 0, .slice none 0 0]) := by rw [hw2]; exact Blk.at_ w1 #[.int .i64 0, .slice none 0 0] _ _ hbb
  have FB : Hid (Below w.heap.size w w2) := by rw [hw2]; exact FB.out.alloc FB.out.size _
  simp only [Act.put]
  rw [← hw2, ← hbb]
  clear hw2 hbb
  obtain ⟨L, hL⟩ : ∃ L, idsM 2 l = L := ⟨_, rfl⟩
  rw [hL] at HSL hLl hcall
  go_upto_region 6 with (go_at_call 15; refine (l10Ids_any l a cap 2 hl2 _ ((HE.out.below FB.out (Nat.le_refl _)).mono FB.out.size)).mono ?_; rw [hL]; rintro e w3 ⟨⟨vs, rfl, ho⟩, hb⟩; have FR0 : Hid (OwI w3 w.heap.size vs L) := ho.base FB.out.size; have HG : Hid (∀ k, vs.ownBlock = some k → b2 < k) := (fun k hk => Nat.lt_of_lt_of_le F2.out.lt (ho.lt k hk).1); obtain ⟨ga, gc, rfl⟩ := FR0.out.sl; have F1 : Hid (Blk w3 b1 [.int .i64 0, .slice none 0 0]) := F1.out.below hb F1.out.lt; have F2 : Hid (Blk w3 b2 [.int .i64 0, .slice none 0 0]) := F2.out.below hb F2.out.lt; have FB : Hid (Below w.heap.size w w3) := FB.out.trans (hb.mono FB.out.size); clear hb ho)
  clear hL
  obtain ⟨B2, hB2⟩ : ∃ B2, B2 = w3.heap.size := ⟨_, rfl⟩
  have lb1 : b1 < B2 := by rw [hB2]; exact F1.out.lt
  have lb2 : b2 < B2 := by rw [hB2]; exact F2.out.lt
  have lg : ∀ k, (Value.slice ga L.length gc).ownBlock = some k → k < B2 ∧ k ≠ b2 := fun k hk => ⟨by rw [hB2]; exact (FR0.out.lt k hk).2, Nat.ne_of_gt (HG.out k hk)⟩
  have lB2 : w.heap.size ≤ B2 := by rw [hB2]; exact FB.out.size
  have HB2 : Hid (B2 ≤ w3.heap.size) := by show B2 ≤ _; omega
  clear hB2 HG
  go_wp2_with fail
  go_loopw [8] (fun ii wr => ∃ (i : Nat) (va : Option Addr) (vc : Nat), ii = .int .i64 i ∧ i ≤ L.length ∧ OwI wr B2 (.slice va ((L.take i).flatMap (waitsAt l)).length vc) ((L.take i).flatMap (waitsAt l)) ∧ Blk wr b2 [.int .i64 0, .slice va ((L.take i).flatMap (waitsAt l)).length vc] ∧ Blk wr b1 [.int .i64 0, .slice none 0 0] ∧ OwI wr w.heap.size (.slice ga L.length gc) L ∧ B2 ≤ wr.heap.size ∧ Below w.heap.size w wr) (fun ii _ => L.length - (intOf ii).toNat)
  case atStart => exact ⟨0, none, 0, rfl, by omega, owi_nil _ _, F2.out, F1.out, FR0.out, HB2.out, FB.out⟩
  case round =>
    obtain ⟨i, va, vc, rfl, hi, ho, hf2, hf1, hr, hB, hb⟩ := hrel
    obtain ⟨M, hM⟩ : ∃ M, (L.take i).flatMap (waitsAt l) = M := ⟨_, rfl⟩
    rw [hM] at ho hf2
    have FO : Hid (OwI wr B2 (.slice va M.length vc) M) := ho
    have F2 : Hid (Blk wr b2 [.int .i64 0, .slice va M.length vc]) := hf2
    have F1 : Hid (Blk wr b1 [.int .i64 0, .slice none 0 0]) := hf1
    have FB : Hid (Below w.heap.size w wr) := hb
    have HBw : Hid (B2 ≤ wr.heap.size) := hB
    have HMl : Hid ((L.take i).flatMap (waitsAt l) = M) := hM
    have hMl : M.length ≤ 200 := by rw [← hM]; exact Nat.le_trans (flat_w hone _) (by rw [List.length_take]; omega)
    clear ho hf2 hf1 hb hB HB2 hM
    by_cases hlt : i < L.length
    · obtain ⟨x, hx⟩ : ∃ x, L[i]? = some x := ⟨_, List.getElem?_eq_getElem hlt⟩
      rcases hr.cases with ⟨_, h0⟩ | ⟨g, gc', e⟩
      · rw [h0] at hlt; simp at hlt
      injection e with e1 e2 e3
      subst e1
      clear e2 e3
      have FR : Hid (OwI wr w.heap.size (.slice (some ⟨g, 0, none⟩) L.length gc) L) := hr
      have FC : Hid (C1 wr g i x) := ⟨hr.cell hx⟩
      have lg1 := (lg g rfl).1
      have lg2 := (lg g rfl).2
      obtain ⟨r, hr1, hr2⟩ := hcall x (List.mem_of_getElem? hx)
      have HX : Hid (L[i]? = some x) := hx
      have rt := htick r hr2
      have HR1 : Hid (callOf l x = some r) := hr1
      obtain ⟨wz, hwz⟩ : ∃ wz, wz = wr := ⟨_, rfl⟩
      clear hr hx hr1 hr2
      have c1_ := FC.out.c
      go_upto_region 10 with (first | (go_at_call 16; refine (l10Call_any a cap l x hl _ ((HE.out.below FB.out (Nat.le_refl _)).mono FB.out.size)).mono ?_; rintro e w5 ⟨⟨c, rfl, hcr⟩, hb⟩; have HCR : Hid (c = r) := hcr r HR1.out; have F1 : Hid (Blk w5 b1 [.int .i64 0, .slice none 0 0]) := F1.out.below hb F1.out.lt; have F2 : Hid (Blk w5 b2 [.int .i64 0, .slice va M.length vc]) := F2.out.below hb F2.out.lt; have FO : Hid (OwI w5 B2 (.slice va M.length vc) M) := FO.out.below hb (fun k hk => (FO.out.lt k hk).2); have FR : Hid (OwI w5 w.heap.size (.slice (some ⟨g, 0, none⟩) L.length gc) L) := FR.out.below hb (fun k hk => (FR.out.lt k hk).2); have FC : Hid (C1 w5 g i x) := FC.out.below hb FC.out.lt; have HBw : Hid (B2 ≤ w5.heap.size) := Nat.le_trans HBw.out hb.size; have FB : Hid (Below w.heap.size w w5) := FB.out.trans (hb.mono FB.out.size); clear hb hcr) | (refine store_new [.int .i64 c.tk, .int .i64 c.kd, .int .i64 c.id, .int .i64 c.fl, .int .i64 c.tw] 42 _ _ (by kernel_rfl) (by kernel_rfl) (by kernel_rfl) rfl rfl rfl rfl ?_))
      clear c1_
      have ct : 0 ≤ c.tk ∧ c.tk ≤ 1000000000000000 := by rw [HCR.out]; exact rt
      have HCall : Hid (callOf l x = some c) := by show callOf l x = some c; rw [HCR.out]; exact HR1.out
      obtain ⟨b9, hbb⟩ : ∃ b9, b9 = w5.heap.size := ⟨_, rfl⟩
      obtain ⟨w6, hw2⟩ : ∃ w6, w6 = w5.alloc (.cells #[.int .i64 c.tk, .int .i64 c.kd, .int .i64 c.id, .int .i64 c.fl, .int .i64 c.tw] 42) := ⟨_, rfl⟩
      have l9 : B2 ≤ b9 := by rw [hbb]; exact HBw.out
      have F1 : Hid (Blk w6 b1 [.int .i64 0, .slice none 0 0]) := by rw [hw2]; exact F1.out.alloc _
      have F2 : Hid (Blk w6 b2 [.int .i64 0, .slice va M.length vc]) := by rw [hw2]; exact F2.out.alloc _
      have FO : Hid (OwI w6 B2 (.slice va M.length vc) M) := by rw [hw2]; exact FO.out.alloc _
      have FR : Hid (OwI w6 w.heap.size (.slice (some ⟨g, 0, none⟩) L.length gc) L) := by rw [hw2]; exact FR.out.alloc _
      have FC : Hid (C1 w6 g i x) := by rw [hw2]; exact FC.out.alloc _
      have F9 : Hid (BlkE w6 b9 [.int .i64 c.tk, .int .i64 c.kd, .int .i64 c.id, .int .i64 c.fl, .int .i64 c.tw]) := by rw [hw2]; exact BlkE.new w5 #[.int .i64 c.tk, .int .i64 c.kd, .int .i64 c.id, .int .i64 c.fl, .int .i64 c.tw] _ hbb
      have HBw : Hid (B2 ≤ w6.heap.size) := by show B2 ≤ _; rw [hw2]; exact Nat.le_trans HBw.out (by simp)
      have FB : Hid (Below w.heap.size w w6) := by rw [hw2]; exact FB.out.alloc FB.out.size _
      (try simp only [Act.put])
      rw [← hw2, ← hbb]
      clear hw2 hbb HCR HR1 rt hwz
      have lB9 : B2 ≤ b9 := l9
      go_wp2_with fail
      go_loopw [11] (fun kk wx => ∃ (k : Nat) (va : Option Addr) (vc : Nat) (N : List Int), kk = .int .i64 k ∧ k ≤ l.length ∧ N = M ++ (boards (l.take k) x).map (fun t => t - c.tk) ∧ OwI wx B2 (.slice va N.length vc) N ∧ Blk wx b2 [.int .i64 0, .slice va N.length vc] ∧ Blk wx b1 [.int .i64 0, .slice none 0 0] ∧ OwI wx w.heap.size (.slice (some ⟨g, 0, none⟩) L.length gc) L ∧ C1 wx g i x ∧ BlkE wx b9 [.int .i64 c.tk, .int .i64 c.kd, .int .i64 c.id, .int .i64 c.fl, .int .i64 c.tw] ∧ B2 ≤ wx.heap.size ∧ Below w.heap.size w wx) (fun kk _ => l.length - (intOf kk).toNat)
      case atStart => exact ⟨0, va, vc, M, rfl, by omega, by simp [boards], FO.out, F2.out, F1.out, FR.out, FC.out, F9.out, HBw.out, FB.out⟩
      case round =>
        obtain ⟨k, va, vc, N, rfl, hk, hN, ho, hf2, hf1, hr, hc, h9, hB, hb⟩ := hrel
        have FO : Hid (OwI wr B2 (.slice va N.length vc) N) := ho
        have F2 : Hid (Blk wr b2 [.int .i64 0, .slice va N.length vc]) := hf2
        have F1 : Hid (Blk wr b1 [.int .i64 0, .slice none 0 0]) := hf1
        have FR : Hid (OwI wr w.heap.size (.slice (some ⟨g, 0, none⟩) L.length gc) L) := hr
        have FC : Hid (C1 wr g i x) := hc
        have F9 : Hid (BlkE wr b9 [.int .i64 c.tk, .int .i64 c.kd, .int .i64 c.id, .int .i64 c.fl, .int .i64 c.tw]) := h9
        have HBw : Hid (B2 ≤ wr.heap.size) := hB
        have FB : Hid (Below w.heap.size w wr) := hb
        have HN : Hid (N = M ++ (boards (l.take k) x).map (fun t => t - c.tk)) := hN
        have hNl : N.length ≤ 400 := by
          rw [hN, List.length_append, List.length_map]
          have := boards_le (l.take k) x
          rw [List.length_take] at this
          omega
        clear ho hf2 hf1 hr hc h9 hB hb hN
        by_cases hkl : k < l.length
        · obtain ⟨p, hp⟩ : ∃ p, l[k]? = some p := ⟨_, List.getElem?_eq_getElem hkl⟩
          have HG : Hid (l[k]? = some p) := hp
          have pt := htick p (List.mem_of_getElem? hp)
          have ew : IntKind.i64.wrap (p.tk - c.tk) = p.tk - c.tk := IntWalk.i64_in _ (by omega)
          rcases HE.out with h0 | ⟨eb, eo, rfl, hbl, h5⟩
          · rw [h0] at hkl; simp at hkl
          have FE : Hid (E5 wr eb (eo + k * 5) p) := (h5 k p hp).below FB.out hbl
          clear hp h5
          cases e1 : (p.id == x) with
          | false =>
            have HN1 : Hid (N = M ++ (boards (l.take (k + 1)) x).map (fun t => t - c.tk)) := by
              show N = _
              rw [boards_snoc HG.out, if_neg (fun q => by rw [q.1] at e1; simp at e1), List.append_nil]
              exact HN.out
            go_wp2_with fail
            have F1 : Hid (Blk wr.drew b1 [.int .i64 0, .slice none 0 0]) := F1.out.below (Below.refl _ _).drew F1.out.lt
            have F2 : Hid (Blk wr.drew b2 [.int .i64 0, (.slice va N.length vc)]) := F2.out.below (Below.refl _ _).drew F2.out.lt
            have FO : Hid (OwI wr.drew B2 (.slice va N.length vc) N) := FO.out.drew
            have FR : Hid (OwI wr.drew w.heap.size (.slice (some ⟨g, 0, none⟩) L.length gc) L) := FR.out.drew
            have FC : Hid (C1 wr.drew g i x) := FC.out.below (Below.refl _ _).drew FC.out.lt
            have F9 : Hid (BlkE wr.drew b9 [.int .i64 c.tk, .int .i64 c.kd, .int .i64 c.id, .int .i64 c.fl, .int .i64 c.tw]) := F9.out.below (Below.refl _ _).drew F9.out.lt
            have FE : Hid (E5 wr.drew eb (eo + k * 5) p) := FE.out.below (Below.refl _ _).drew FE.out.lt
            have FB : Hid (Below w.heap.size w wr.drew) := FB.out.drew
            have z2 := FE.out.c2
            have z1 := FE.out.c1
            have m1 := FC.out.c
            refine wp_region_held_drew (S := (fun w'' => w''.cell? ⟨eb, (eo + k * 5 + 2), none⟩ = some (.int .i64 p.id) ∧ w''.cell? ⟨eb, (eo + k * 5 + 1), none⟩ = some (.int .i64 p.kd) ∧ w''.cell? ⟨g, i, none⟩ = some (.int .i64 x))) (by kernel_rfl) (by (try dsimp only); first | exact ⟨z2, z1, m1⟩ | go_keep) (fun hHeld => ?_)
            obtain ⟨v_1, hw1⟩ : ∃ v_1, v_1 = wr.drew := ⟨_, rfl⟩
            have F1 : Hid (Blk v_1 b1 [.int .i64 0, .slice none 0 0]) := by rw [hw1]; exact F1.out
            have F2 : Hid (Blk v_1 b2 [.int .i64 0, (.slice va N.length vc)]) := by rw [hw1]; exact F2.out
            have FO : Hid (OwI v_1 B2 (.slice va N.length vc) N) := by rw [hw1]; exact FO.out
            have FR : Hid (OwI v_1 w.heap.size (.slice (some ⟨g, 0, none⟩) L.length gc) L) := by rw [hw1]; exact FR.out
            have FC : Hid (C1 v_1 g i x) := by rw [hw1]; exact FC.out
            have F9 : Hid (BlkE v_1 b9 [.int .i64 c.tk, .int .i64 c.kd, .int .i64 c.id, .int .i64 c.fl, .int .i64 c.tw]) := by rw [hw1]; exact F9.out
            have FE : Hid (E5 v_1 eb (eo + k * 5) p) := by rw [hw1]; exact FE.out
            have FB : Hid (Below w.heap.size w v_1) := by rw [hw1]; exact FB.out
            rw [← hw1] at hHeld ⊢
            clear hw1
            have z2 := FE.out.c2
            have z1 := FE.out.c1
            have m1 := FC.out.c
            refine tkz 0 rfl ?_
            refine tkz 1 rfl ?_
            refine tkz 2 rfl ?_
            refine tkz 3 rfl ?_
            refine tkz 4 rfl ?_
            refine tkz 5 rfl ?_
            refine tkz 6 rfl ?_
            refine tkz 7 rfl ?_
            refine tkz 8 rfl ?_
            refine tkz 9 rfl ?_
            refine tkz 10 rfl ?_
            refine tbz 11 rfl ?_
            refine tbz 12 rfl ?_
            refine tbz 13 rfl ?_
            refine tbz 14 rfl ?_
            refine tbz 15 rfl ?_
            refine tbz 16 rfl ?_
            refine tkz 17 rfl ?_
            refine wpAnyH_done (by kernel_rfl) ?_ _
            obtain ⟨wy, hwy⟩ : ∃ q, q = v_1 := ⟨_, rfl⟩
            rw [← hwy] at F1 F2 FO FR FC F9 FE FB ⊢
            have HBw : Hid (B2 ≤ wy.heap.size) := Nat.le_trans lB9 (Nat.le_of_lt F9.out.lt)
            clear hwy z1 z2 m1
            go_wp2_with fail
            go_roundw
            case rel => first | exact ⟨k + 1, va, vc, N, by simp, by omega, HN1.out, FO.out, F2.out, F1.out, FR.out, FC.out, F9.out, HBw.out, FB.out⟩ | ((repeat apply Exists.intro); exact ⟨⟨k + 1, va, vc, N, by simp, by omega, HN1.out, FO.out, F2.out, F1.out, FR.out, FC.out, F9.out, HBw.out, FB.out⟩, rfl⟩)
            case measure => simp [intOf]; omega
          | true =>
            cases e2 : (p.kd == 2) with
            | false =>
              have HN1 : Hid (N = M ++ (boards (l.take (k + 1)) x).map (fun t => t - c.tk)) := by
                show N = _
                rw [boards_snoc HG.out, if_neg (fun q => by rw [q.2] at e2; simp at e2), List.append_nil]
                exact HN.out
              go_wp2_with fail
              have F1 : Hid (Blk wr.drew b1 [.int .i64 0, .slice none 0 0]) := F1.out.below (Below.refl _ _).drew F1.out.lt
              have F2 : Hid (Blk wr.drew b2 [.int .i64 0, (.slice va N.length vc)]) := F2.out.below (Below.refl _ _).drew F2.out.lt
              have FO : Hid (OwI wr.drew B2 (.slice va N.length vc) N) := FO.out.drew
              have FR : Hid (OwI wr.drew w.heap.size (.slice (some ⟨g, 0, none⟩) L.length gc) L) := FR.out.drew
              have FC : Hid (C1 wr.drew g i x) := FC.out.below (Below.refl _ _).drew FC.out.lt
              have F9 : Hid (BlkE wr.drew b9 [.int .i64 c.tk, .int .i64 c.kd, .int .i64 c.id, .int .i64 c.fl, .int .i64 c.tw]) := F9.out.below (Below.refl _ _).drew F9.out.lt
              have FE : Hid (E5 wr.drew eb (eo + k * 5) p) := FE.out.below (Below.refl _ _).drew FE.out.lt
              have FB : Hid (Below w.heap.size w wr.drew) := FB.out.drew
              have z2 := FE.out.c2
              have z1 := FE.out.c1
              have m1 := FC.out.c
              refine wp_region_held_drew (S := (fun w'' => w''.cell? ⟨eb, (eo + k * 5 + 2), none⟩ = some (.int .i64 p.id) ∧ w''.cell? ⟨eb, (eo + k * 5 + 1), none⟩ = some (.int .i64 p.kd) ∧ w''.cell? ⟨g, i, none⟩ = some (.int .i64 x))) (by kernel_rfl) (by (try dsimp only); first | exact ⟨z2, z1, m1⟩ | go_keep) (fun hHeld => ?_)
              obtain ⟨v_2, hw1⟩ : ∃ v_2, v_2 = wr.drew := ⟨_, rfl⟩
              have F1 : Hid (Blk v_2 b1 [.int .i64 0, .slice none 0 0]) := by rw [hw1]; exact F1.out
              have F2 : Hid (Blk v_2 b2 [.int .i64 0, (.slice va N.length vc)]) := by rw [hw1]; exact F2.out
              have FO : Hid (OwI v_2 B2 (.slice va N.length vc) N) := by rw [hw1]; exact FO.out
              have FR : Hid (OwI v_2 w.heap.size (.slice (some ⟨g, 0, none⟩) L.length gc) L) := by rw [hw1]; exact FR.out
              have FC : Hid (C1 v_2 g i x) := by rw [hw1]; exact FC.out
              have F9 : Hid (BlkE v_2 b9 [.int .i64 c.tk, .int .i64 c.kd, .int .i64 c.id, .int .i64 c.fl, .int .i64 c.tw]) := by rw [hw1]; exact F9.out
              have FE : Hid (E5 v_2 eb (eo + k * 5) p) := by rw [hw1]; exact FE.out
              have FB : Hid (Below w.heap.size w v_2) := by rw [hw1]; exact FB.out
              rw [← hw1] at hHeld ⊢
              clear hw1
              have z2 := FE.out.c2
              have z1 := FE.out.c1
              have m1 := FC.out.c
              refine tkz 0 rfl ?_
              refine tkz 1 rfl ?_
              refine tkz 2 rfl ?_
              refine tkz 3 rfl ?_
              refine tkz 4 rfl ?_
              refine tkz 5 rfl ?_
              refine tkz 6 rfl ?_
              refine tkz 7 rfl ?_
              refine tkz 8 rfl ?_
              refine tkz 9 rfl ?_
              refine tkz 10 rfl ?_
              refine tkz 11 rfl ?_
              refine tkz 12 rfl ?_
              refine tkz 13 rfl ?_
              refine tkz 14 rfl ?_
              refine tkz 15 rfl ?_
              refine tkz 16 rfl ?_
              refine tkz 17 rfl ?_
              refine wpAnyH_done (by kernel_rfl) ?_ _
              obtain ⟨wy, hwy⟩ : ∃ q, q = v_2 := ⟨_, rfl⟩
              rw [← hwy] at F1 F2 FO FR FC F9 FE FB ⊢
              have HBw : Hid (B2 ≤ wy.heap.size) := Nat.le_trans lB9 (Nat.le_of_lt F9.out.lt)
              clear hwy z1 z2 m1
              go_wp2_with fail
              go_roundw
              case rel => first | exact ⟨k + 1, va, vc, N, by simp, by omega, HN1.out, FO.out, F2.out, F1.out, FR.out, FC.out, F9.out, HBw.out, FB.out⟩ | ((repeat apply Exists.intro); exact ⟨⟨k + 1, va, vc, N, by simp, by omega, HN1.out, FO.out, F2.out, F1.out, FR.out, FC.out, F9.out, HBw.out, FB.out⟩, rfl⟩)
              case measure => simp [intOf]; omega
            | true =>
              obtain ⟨N1, hN1⟩ : ∃ N1, N ++ [p.tk - c.tk] = N1 := ⟨_, rfl⟩
              have HM1 : Hid (N ++ [p.tk - c.tk] = N1) := hN1
              have HN1 : Hid (N1 = M ++ (boards (l.take (k + 1)) x).map (fun t => t - c.tk)) := by
                show N1 = _
                rw [boards_snoc HG.out, if_pos ⟨by simpa using e1, by simpa using e2⟩, List.map_append, ← List.append_assoc, ← HN.out, ← hN1]
                rfl
              obtain ⟨wz, hwz⟩ : ∃ wz, wz = wr := ⟨_, rfl⟩
              clear hN1 hwz
              go_wp2_with fail
              have F1 : Hid (Blk wr.drew b1 [.int .i64 0, .slice none 0 0]) := F1.out.below (Below.refl _ _).drew F1.out.lt
              have F2 : Hid (Blk wr.drew b2 [.int .i64 0, (.slice va N.length vc)]) := F2.out.below (Below.refl _ _).drew F2.out.lt
              have FO : Hid (OwI wr.drew B2 (.slice va N.length vc) N) := FO.out.drew
              have FR : Hid (OwI wr.drew w.heap.size (.slice (some ⟨g, 0, none⟩) L.length gc) L) := FR.out.drew
              have FC : Hid (C1 wr.drew g i x) := FC.out.below (Below.refl _ _).drew FC.out.lt
              have F9 : Hid (BlkE wr.drew b9 [.int .i64 c.tk, .int .i64 c.kd, .int .i64 c.id, .int .i64 c.fl, .int .i64 c.tw]) := F9.out.below (Below.refl _ _).drew F9.out.lt
              have FE : Hid (E5 wr.drew eb (eo + k * 5) p) := FE.out.below (Below.refl _ _).drew FE.out.lt
              have FB : Hid (Below w.heap.size w wr.drew) := FB.out.drew
              have z2 := FE.out.c2
              have z1 := FE.out.c1
              have m1 := FC.out.c
              refine wp_region_held_drew (S := (fun w'' => w''.cell? ⟨eb, (eo + k * 5 + 2), none⟩ = some (.int .i64 p.id) ∧ w''.cell? ⟨eb, (eo + k * 5 + 1), none⟩ = some (.int .i64 p.kd) ∧ w''.cell? ⟨g, i, none⟩ = some (.int .i64 x))) (by kernel_rfl) (by (try dsimp only); first | exact ⟨z2, z1, m1⟩ | go_keep) (fun hHeld => ?_)
              obtain ⟨v_3, hw1⟩ : ∃ v_3, v_3 = wr.drew := ⟨_, rfl⟩
              have F1 : Hid (Blk v_3 b1 [.int .i64 0, .slice none 0 0]) := by rw [hw1]; exact F1.out
              have F2 : Hid (Blk v_3 b2 [.int .i64 0, (.slice va N.length vc)]) := by rw [hw1]; exact F2.out
              have FO : Hid (OwI v_3 B2 (.slice va N.length vc) N) := by rw [hw1]; exact FO.out
              have FR : Hid (OwI v_3 w.heap.size (.slice (some ⟨g, 0, none⟩) L.length gc) L) := by rw [hw1]; exact FR.out
              have FC : Hid (C1 v_3 g i x) := by rw [hw1]; exact FC.out
              have F9 : Hid (BlkE v_3 b9 [.int .i64 c.tk, .int .i64 c.kd, .int .i64 c.id, .int .i64 c.fl, .int .i64 c.tw]) := by rw [hw1]; exact F9.out
              have FE : Hid (E5 v_3 eb (eo + k * 5) p) := by rw [hw1]; exact FE.out
              have FB : Hid (Below w.heap.size w v_3) := by rw [hw1]; exact FB.out
              rw [← hw1] at hHeld ⊢
              clear hw1
              have z2 := FE.out.c2
              have z1 := FE.out.c1
              have m1 := FC.out.c
              refine tkz 0 rfl ?_
              refine tkz 1 rfl ?_
              refine tkz 2 rfl ?_
              refine tkz 3 rfl ?_
              refine tkz 4 rfl ?_
              refine tkz 5 rfl ?_
              refine tkz 6 rfl ?_
              refine tkz 7 rfl ?_
              refine tkz 8 rfl ?_
              refine tkz 9 rfl ?_
              refine tkz 10 rfl ?_
              refine tkz 11 rfl ?_
              refine tkz 12 rfl ?_
              refine tkz 13 rfl ?_
              refine tkz 14 rfl ?_
              refine tkz 15 rfl ?_
              refine tkz 16 rfl ?_
              refine tkz 17 rfl ?_
              refine wpAnyH_done (by kernel_rfl) ?_ _
              obtain ⟨wy, hwy⟩ : ∃ q, q = v_3 := ⟨_, rfl⟩
              rw [← hwy] at F1 F2 FO FR FC F9 FE FB ⊢
              have HBw : Hid (B2 ≤ wy.heap.size) := Nat.le_trans lB9 (Nat.le_of_lt F9.out.lt)
              clear hwy z1 z2 m1
              obtain ⟨wq, hwq⟩ : ∃ wq, wq = wy := ⟨_, rfl⟩
              have FZ : Hid (Below B2 wq wy) := by rw [hwq]; exact Below.refl _ _
              have HBw : Hid (B2 ≤ wq.heap.size) := by rw [hwq]; exact HBw.out
              clear hwq
              go_wp2_with fail
              have F1 : Hid (Blk wy.drew b1 [.int .i64 0, .slice none 0 0]) := F1.out.below (Below.refl _ _).drew F1.out.lt
              have F2 : Hid (Blk wy.drew b2 [.int .i64 0, (.slice va N.length vc)]) := F2.out.below (Below.refl _ _).drew F2.out.lt
              have FO : Hid (OwI wy.drew B2 (.slice va N.length vc) N) := FO.out.drew
              have FR : Hid (OwI wy.drew w.heap.size (.slice (some ⟨g, 0, none⟩) L.length gc) L) := FR.out.drew
              have FC : Hid (C1 wy.drew g i x) := FC.out.below (Below.refl _ _).drew FC.out.lt
              have F9 : Hid (BlkE wy.drew b9 [.int .i64 c.tk, .int .i64 c.kd, .int .i64 c.id, .int .i64 c.fl, .int .i64 c.tw]) := F9.out.below (Below.refl _ _).drew F9.out.lt
              have FE : Hid (E5 wy.drew eb (eo + k * 5) p) := FE.out.below (Below.refl _ _).drew FE.out.lt
              have FZ : Hid (Below B2 wq wy.drew) := FZ.out.drew
              have FB : Hid (Below w.heap.size w wy.drew) := FB.out.drew
              have z0 := FE.out.c0
              have y0 := F9.out.k.c 0 _ rfl
              refine wp_region_held_drew (S := (fun w'' => w''.cell? ⟨eb, (eo + k * 5), none⟩ = some (.int .i64 p.tk) ∧ w''.cell? ⟨b9, 0, none⟩ = some (.int .i64 c.tk))) (by kernel_rfl) (by (try dsimp only); first | exact ⟨z0, y0⟩ | go_keep) (fun hHeld => ?_)
              obtain ⟨v_4, hw1⟩ : ∃ v_4, v_4 = wy.drew := ⟨_, rfl⟩
              have F1 : Hid (Blk v_4 b1 [.int .i64 0, .slice none 0 0]) := by rw [hw1]; exact F1.out
              have F2 : Hid (Blk v_4 b2 [.int .i64 0, (.slice va N.length vc)]) := by rw [hw1]; exact F2.out
              have FO : Hid (OwI v_4 B2 (.slice va N.length vc) N) := by rw [hw1]; exact FO.out
              have FR : Hid (OwI v_4 w.heap.size (.slice (some ⟨g, 0, none⟩) L.length gc) L) := by rw [hw1]; exact FR.out
              have FC : Hid (C1 v_4 g i x) := by rw [hw1]; exact FC.out
              have F9 : Hid (BlkE v_4 b9 [.int .i64 c.tk, .int .i64 c.kd, .int .i64 c.id, .int .i64 c.fl, .int .i64 c.tw]) := by rw [hw1]; exact F9.out
              have FE : Hid (E5 v_4 eb (eo + k * 5) p) := by rw [hw1]; exact FE.out
              have FZ : Hid (Below B2 wq v_4) := by rw [hw1]; exact FZ.out
              have FB : Hid (Below w.heap.size w v_4) := by rw [hw1]; exact FB.out
              rw [← hw1] at hHeld ⊢
              clear hw1
              have z0 := FE.out.c0
              have y0 := F9.out.k.c 0 _ rfl
              refine tkz 0 rfl ?_
              refine tkz 2 rfl ?_
              refine tkz 3 rfl ?_
              refine tkz 4 rfl ?_
              refine tkz 5 rfl ?_
              refine tkz 6 rfl ?_
              refine tkz 7 rfl ?_
              refine tkz 8 rfl ?_
              refine tkz 9 rfl ?_
              refine wpAnyH_ready (rs := [1, 10]) (by kernel_rfl) (by simp) ?_
              refine (AllReadyH.cons rfl (fun K hK => ?_) (AllReadyH.cons rfl (fun K hK => ?_) AllReadyH.nil))
              · have c0_ := F2.out.c 1 _ rfl
                go_simp
                refine hK.out _ _ (by (try dsimp only); first | exact ⟨z0, y0⟩ | go_keep) (fun hHeld => ?_)
                clear hK K
                try simp only [Act.put, List.getElem_toArray, List.getElem_cons_succ, List.getElem_cons_zero, List.setIfInBounds_toArray, List.set_cons_zero, List.set_cons_succ]
                refine wpAnyH_ready (rs := [10]) (by kernel_rfl) (by simp) ?_
                refine (AllReadyH.cons rfl (fun K hK => ?_) AllReadyH.nil)
                refine step_i rfl ?_
                go_simp
                obtain ⟨nb, hnb⟩ : ∃ nb, nb = v_4.heap.size := ⟨_, rfl⟩
                have ln1 : b2 < nb := by rw [hnb]; exact F2.out.lt
                obtain ⟨v_5, hw2⟩ : ∃ v_5, v_5 = v_4.alloc (.cells #[.int .i64 (p.tk - c.tk)] 2) := ⟨_, rfl⟩
                have F1 : Hid (Blk v_5 b1 [.int .i64 0, .slice none 0 0]) := by rw [hw2]; exact F1.out.alloc _
                have F2 : Hid (Blk v_5 b2 [.int .i64 0, (.slice va N.length vc)]) := by rw [hw2]; exact F2.out.alloc _
                have FO : Hid (OwI v_5 B2 (.slice va N.length vc) N) := by rw [hw2]; exact FO.out.alloc _
                have FR : Hid (OwI v_5 w.heap.size (.slice (some ⟨g, 0, none⟩) L.length gc) L) := by rw [hw2]; exact FR.out.alloc _
                have FC : Hid (C1 v_5 g i x) := by rw [hw2]; exact FC.out.alloc _
                have F9 : Hid (BlkE v_5 b9 [.int .i64 c.tk, .int .i64 c.kd, .int .i64 c.id, .int .i64 c.fl, .int .i64 c.tw]) := by rw [hw2]; exact F9.out.alloc _
                have FE : Hid (E5 v_5 eb (eo + k * 5) p) := by rw [hw2]; exact FE.out.alloc _
                have FZ : Hid (Below B2 wq v_5) := by rw [hw2]; exact FZ.out.alloc (by have := FZ.out.size; have := HBw.out; omega) _
                have FB : Hid (Below w.heap.size w v_5) := by rw [hw2]; exact FB.out.alloc FB.out.size _
                have FN : Hid (C1 v_5 nb 0 (p.tk - c.tk)) := by rw [hw2]; exact ⟨by rw [hnb]; simp⟩
                rw [← hw2, ← hnb]
                clear hw2 hnb
                have z0 := FE.out.c0
                have y0 := F9.out.k.c 0 _ rfl
                refine hK.out _ _ (by (try dsimp only); first | exact ⟨z0, y0⟩ | go_keep) (fun hHeld => ?_)
                clear hK K
                try simp only [Act.put, List.getElem_toArray, List.getElem_cons_succ, List.getElem_cons_zero, List.setIfInBounds_toArray, List.set_cons_zero, List.set_cons_succ]
                refine wpAnyH_ready (rs := [11]) (by kernel_rfl) (by simp) ?_
                refine (AllReadyH.cons rfl (fun K hK => ?_) AllReadyH.nil)
                refine step_i rfl ?_
                have FOx := FO
                have F9x := F9
                refine wp_append_v B2 (.slice va N.length vc) N (p.tk - c.tk) rfl FO.out nb rfl FN.out.c (by omega) (by have := HBw.out; have := FZ.out.size; omega) ?_
                intro v1 v_6 ho hg
                rw [HM1.out] at ho
                obtain ⟨va1, vc1, rfl⟩ := ho.sl
                have F1 : Hid (Blk v_6 b1 [.int .i64 0, .slice none 0 0]) := F1.out.grown hg (fun e => by have e2 := (FOx.out.lt _ e.symm).1; omega)
                have F2 : Hid (Blk v_6 b2 [.int .i64 0, (.slice va N.length vc)]) := F2.out.grown hg (fun e => by have e2 := (FOx.out.lt _ e.symm).1; omega)
                have FR : Hid (OwI v_6 w.heap.size (.slice (some ⟨g, 0, none⟩) L.length gc) L) := FR.out.kept hg (Or.inr (fun e => by have e2 := (FOx.out.lt g e.symm).1; omega))
                have FC : Hid (C1 v_6 g i x) := FC.out.grown hg (fun e => by have e2 := (FOx.out.lt _ e.symm).1; omega)
                have F9 : Hid (BlkE v_6 b9 [.int .i64 c.tk, .int .i64 c.kd, .int .i64 c.id, .int .i64 c.fl, .int .i64 c.tw]) := F9.out.grown hg (fun e => own_ne FOx.out F9x.out e.symm)
                have FE : Hid (E5 v_6 eb (eo + k * 5) p) := FE.out.grown hg (fun e => by have e2 := (FOx.out.lt _ e.symm).1; omega)
                have FB : Hid (Below w.heap.size w v_6) := FB.out.grown hg FB.out.size (fun j hj => Nat.le_trans lB2 (FOx.out.lt j hj).1)
                have FQ : Hid (OwI v_6 B2 (.slice va1 N1.length vc1) N1) := ho
                clear ho hg
                have z0 := FE.out.c0
                have y0 := F9.out.k.c 0 _ rfl
                refine hK.out _ _ (by (try dsimp only); first | exact ⟨z0, y0⟩ | go_keep) (fun hHeld => ?_)
                clear hK K
                try simp only [Act.put, List.getElem_toArray, List.getElem_cons_succ, List.getElem_cons_zero, List.setIfInBounds_toArray, List.set_cons_zero, List.set_cons_succ]
                refine tkz 12 rfl ?_
                refine wpAnyH_ready (rs := [13]) (by kernel_rfl) (by simp) ?_
                refine (AllReadyH.cons rfl (fun K hK => ?_) AllReadyH.nil)
                have k1 := F2.out.c 1 _ rfl
                have kf1 := F2.out.f 1 (by simp)
                go_simp
                obtain ⟨v_7, hw2⟩ : ∃ v_7, v_7 = v_6.setCell ⟨b2, 1, none⟩ (.slice va1 N1.length vc1) := ⟨_, rfl⟩
                change K _ (v_6.setCell ⟨b2, 1, none⟩ (.slice va1 N1.length vc1))
                rw [← hw2]
                clear k1 kf1
                have F1 : Hid (Blk v_7 b1 [.int .i64 0, .slice none 0 0]) := by rw [hw2]; exact F1.out.other (by omega)
                have F2 : Hid (Blk v_7 b2 [.int .i64 0, .slice va1 N1.length vc1]) := by rw [hw2]; exact F2.out.set _ (by simp)
                have FR : Hid (OwI v_7 w.heap.size (.slice (some ⟨g, 0, none⟩) L.length gc) L) := by rw [hw2]; exact FR.out.other (fun e => by have e2 : g = b2 := Option.some.inj e; omega) _
                have FC : Hid (C1 v_7 g i x) := by rw [hw2]; exact FC.out.other lg2
                have F9 : Hid (BlkE v_7 b9 [.int .i64 c.tk, .int .i64 c.kd, .int .i64 c.id, .int .i64 c.fl, .int .i64 c.tw]) := by rw [hw2]; exact F9.out.other (by omega)
                have FE : Hid (E5 v_7 eb (eo + k * 5) p) := by rw [hw2]; exact FE.out.other (by omega)
                have FB : Hid (Below w.heap.size w v_7) := by rw [hw2]; exact FB.out.setCell leb2 _
                have FQ : Hid (OwI v_7 B2 (.slice va1 N1.length vc1) N1) := by rw [hw2]; exact FQ.out.other (fun e => by have e2 : B2 ≤ b2 := (FQ.out.lt b2 e).1; omega) _
                clear hw2
                have z0 := FE.out.c0
                have y0 := F9.out.k.c 0 _ rfl
                refine hK.out _ _ (by (try dsimp only); first | exact ⟨z0, y0⟩ | go_keep) (fun hHeld => ?_)
                clear hK K
                try simp only [Act.put, List.getElem_toArray, List.getElem_cons_succ, List.getElem_cons_zero, List.setIfInBounds_toArray, List.set_cons_zero, List.set_cons_succ]
                refine wpAnyH_done (by kernel_rfl) ?_ _
                go_wp2_with fail
                go_roundw
                case rel => first | exact ⟨k + 1, va1, vc1, N1, by simp, by omega, HN1.out, FQ.out, F2.out, F1.out, FR.out, FC.out, F9.out, Nat.le_trans lB9 (Nat.le_of_lt F9.out.lt), FB.out⟩ | ((repeat apply Exists.intro); exact ⟨⟨k + 1, va1, vc1, N1, by simp, by omega, HN1.out, FQ.out, F2.out, F1.out, FR.out, FC.out, F9.out, Nat.le_trans lB9 (Nat.le_of_lt F9.out.lt), FB.out⟩, rfl⟩)
                case measure => simp [intOf]; omega
              · refine step_i rfl ?_
                go_simp
                obtain ⟨nb, hnb⟩ : ∃ nb, nb = v_4.heap.size := ⟨_, rfl⟩
                have ln1 : b2 < nb := by rw [hnb]; exact F2.out.lt
                obtain ⟨v_8, hw2⟩ : ∃ v_8, v_8 = v_4.alloc (.cells #[.int .i64 (p.tk - c.tk)] 2) := ⟨_, rfl⟩
                have F1 : Hid (Blk v_8 b1 [.int .i64 0, .slice none 0 0]) := by rw [hw2]; exact F1.out.alloc _
                have F2 : Hid (Blk v_8 b2 [.int .i64 0, (.slice va N.length vc)]) := by rw [hw2]; exact F2.out.alloc _
                have FO : Hid (OwI v_8 B2 (.slice va N.length vc) N) := by rw [hw2]; exact FO.out.alloc _
                have FR : Hid (OwI v_8 w.heap.size (.slice (some ⟨g, 0, none⟩) L.length gc) L) := by rw [hw2]; exact FR.out.alloc _
                have FC : Hid (C1 v_8 g i x) := by rw [hw2]; exact FC.out.alloc _
                have F9 : Hid (BlkE v_8 b9 [.int .i64 c.tk, .int .i64 c.kd, .int .i64 c.id, .int .i64 c.fl, .int .i64 c.tw]) := by rw [hw2]; exact F9.out.alloc _
                have FE : Hid (E5 v_8 eb (eo + k * 5) p) := by rw [hw2]; exact FE.out.alloc _
                have FZ : Hid (Below B2 wq v_8) := by rw [hw2]; exact FZ.out.alloc (by have := FZ.out.size; have := HBw.out; omega) _
                have FB : Hid (Below w.heap.size w v_8) := by rw [hw2]; exact FB.out.alloc FB.out.size _
                have FN : Hid (C1 v_8 nb 0 (p.tk - c.tk)) := by rw [hw2]; exact ⟨by rw [hnb]; simp⟩
                rw [← hw2, ← hnb]
                clear hw2 hnb
                have z0 := FE.out.c0
                have y0 := F9.out.k.c 0 _ rfl
                refine hK.out _ _ (by (try dsimp only); first | exact ⟨z0, y0⟩ | go_keep) (fun hHeld => ?_)
                clear hK K
                try simp only [Act.put, List.getElem_toArray, List.getElem_cons_succ, List.getElem_cons_zero, List.setIfInBounds_toArray, List.set_cons_zero, List.set_cons_succ]
                refine wpAnyH_ready (rs := [1]) (by kernel_rfl) (by simp) ?_
                refine (AllReadyH.cons rfl (fun K hK => ?_) AllReadyH.nil)
                have c0_ := F2.out.c 1 _ rfl
                go_simp
                refine hK.out _ _ (by (try dsimp only); first | exact ⟨z0, y0⟩ | go_keep) (fun hHeld => ?_)
                clear hK K
                try simp only [Act.put, List.getElem_toArray, List.getElem_cons_succ, List.getElem_cons_zero, List.setIfInBounds_toArray, List.set_cons_zero, List.set_cons_succ]
                refine wpAnyH_ready (rs := [11]) (by kernel_rfl) (by simp) ?_
                refine (AllReadyH.cons rfl (fun K hK => ?_) AllReadyH.nil)
                refine step_i rfl ?_
                have FOx := FO
                have F9x := F9
                refine wp_append_v B2 (.slice va N.length vc) N (p.tk - c.tk) rfl FO.out nb rfl FN.out.c (by omega) (by have := HBw.out; have := FZ.out.size; omega) ?_
                intro v1 v_9 ho hg
                rw [HM1.out] at ho
                obtain ⟨va1, vc1, rfl⟩ := ho.sl
                have F1 : Hid (Blk v_9 b1 [.int .i64 0, .slice none 0 0]) := F1.out.grown hg (fun e => by have e2 := (FOx.out.lt _ e.symm).1; omega)
                have F2 : Hid (Blk v_9 b2 [.int .i64 0, (.slice va N.length vc)]) := F2.out.grown hg (fun e => by have e2 := (FOx.out.lt _ e.symm).1; omega)
                have FR : Hid (OwI v_9 w.heap.size (.slice (some ⟨g, 0, none⟩) L.length gc) L) := FR.out.kept hg (Or.inr (fun e => by have e2 := (FOx.out.lt g e.symm).1; omega))
                have FC : Hid (C1 v_9 g i x) := FC.out.grown hg (fun e => by have e2 := (FOx.out.lt _ e.symm).1; omega)
                have F9 : Hid (BlkE v_9 b9 [.int .i64 c.tk, .int .i64 c.kd, .int .i64 c.id, .int .i64 c.fl, .int .i64 c.tw]) := F9.out.grown hg (fun e => own_ne FOx.out F9x.out e.symm)
                have FE : Hid (E5 v_9 eb (eo + k * 5) p) := FE.out.grown hg (fun e => by have e2 := (FOx.out.lt _ e.symm).1; omega)
                have FB : Hid (Below w.heap.size w v_9) := FB.out.grown hg FB.out.size (fun j hj => Nat.le_trans lB2 (FOx.out.lt j hj).1)
                have FQ : Hid (OwI v_9 B2 (.slice va1 N1.length vc1) N1) := ho
                clear ho hg
                have z0 := FE.out.c0
                have y0 := F9.out.k.c 0 _ rfl
                refine hK.out _ _ (by (try dsimp only); first | exact ⟨z0, y0⟩ | go_keep) (fun hHeld => ?_)
                clear hK K
                try simp only [Act.put, List.getElem_toArray, List.getElem_cons_succ, List.getElem_cons_zero, List.setIfInBounds_toArray, List.set_cons_zero, List.set_cons_succ]
                refine tkz 12 rfl ?_
                refine wpAnyH_ready (rs := [13]) (by kernel_rfl) (by simp) ?_
                refine (AllReadyH.cons rfl (fun K hK => ?_) AllReadyH.nil)
                have k1 := F2.out.c 1 _ rfl
                have kf1 := F2.out.f 1 (by simp)
                go_simp
                obtain ⟨v_10, hw2⟩ : ∃ v_10, v_10 = v_9.setCell ⟨b2, 1, none⟩ (.slice va1 N1.length vc1) := ⟨_, rfl⟩
                change K _ (v_9.setCell ⟨b2, 1, none⟩ (.slice va1 N1.length vc1))
                rw [← hw2]
                clear k1 kf1
                have F1 : Hid (Blk v_10 b1 [.int .i64 0, .slice none 0 0]) := by rw [hw2]; exact F1.out.other (by omega)
                have F2 : Hid (Blk v_10 b2 [.int .i64 0, .slice va1 N1.length vc1]) := by rw [hw2]; exact F2.out.set _ (by simp)
                have FR : Hid (OwI v_10 w.heap.size (.slice (some ⟨g, 0, none⟩) L.length gc) L) := by rw [hw2]; exact FR.out.other (fun e => by have e2 : g = b2 := Option.some.inj e; omega) _
                have FC : Hid (C1 v_10 g i x) := by rw [hw2]; exact FC.out.other lg2
                have F9 : Hid (BlkE v_10 b9 [.int .i64 c.tk, .int .i64 c.kd, .int .i64 c.id, .int .i64 c.fl, .int .i64 c.tw]) := by rw [hw2]; exact F9.out.other (by omega)
                have FE : Hid (E5 v_10 eb (eo + k * 5) p) := by rw [hw2]; exact FE.out.other (by omega)
                have FB : Hid (Below w.heap.size w v_10) := by rw [hw2]; exact FB.out.setCell leb2 _
                have FQ : Hid (OwI v_10 B2 (.slice va1 N1.length vc1) N1) := by rw [hw2]; exact FQ.out.other (fun e => by have e2 : B2 ≤ b2 := (FQ.out.lt b2 e).1; omega) _
                clear hw2
                have z0 := FE.out.c0
                have y0 := F9.out.k.c 0 _ rfl
                refine hK.out _ _ (by (try dsimp only); first | exact ⟨z0, y0⟩ | go_keep) (fun hHeld => ?_)
                clear hK K
                try simp only [Act.put, List.getElem_toArray, List.getElem_cons_succ, List.getElem_cons_zero, List.setIfInBounds_toArray, List.set_cons_zero, List.set_cons_succ]
                refine wpAnyH_done (by kernel_rfl) ?_ _
                go_wp2_with fail
                go_roundw
                case rel => first | exact ⟨k + 1, va1, vc1, N1, by simp, by omega, HN1.out, FQ.out, F2.out, F1.out, FR.out, FC.out, F9.out, Nat.le_trans lB9 (Nat.le_of_lt F9.out.lt), FB.out⟩ | ((repeat apply Exists.intro); exact ⟨⟨k + 1, va1, vc1, N1, by simp, by omega, HN1.out, FQ.out, F2.out, F1.out, FR.out, FC.out, F9.out, Nat.le_trans lB9 (Nat.le_of_lt F9.out.lt), FB.out⟩, rfl⟩)
                case measure => simp [intOf]; omega
        · have ek : k = l.length := by omega
          subst ek
          have HN2 : Hid ((L.take (i + 1)).flatMap (waitsAt l) = N) := by
            have q : L[i] = x := (List.getElem?_eq_some_iff.1 HX.out).2
            show _ = N
            rw [HN.out, List.take_succ_eq_append_getElem hlt, List.flatMap_append, HMl.out, q, List.take_length]
            unfold waitsAt
            rw [List.flatMap_cons, List.flatMap_nil, List.append_nil, HCall.out]
            rfl
          go_wp2_with fail
          go_roundw
          case rel => first | exact ⟨i + 1, va, vc, by simp, by omega, by rw [HN2.out]; exact FO.out, by rw [HN2.out]; exact F2.out, F1.out, FR.out, HBw.out, FB.out⟩ | ((repeat apply Exists.intro); exact ⟨⟨i + 1, va, vc, by simp, by omega, by rw [HN2.out]; exact FO.out, by rw [HN2.out]; exact F2.out, F1.out, FR.out, HBw.out, FB.out⟩, rfl⟩)
          case measure => simp [intOf]; omega
    · have ei : i = L.length := by omega
      subst ei
      have FO4 : Hid (OwI wr w.heap.size (.slice va M.length vc) SL) := by
        have q := FO.out.base lB2
        have e : M = SL := by rw [← HMl.out, List.take_length, ← HSL.out]
        rw [e] at q ⊢
        exact q
      have FO5 : ∀ k, (Value.slice va M.length vc).ownBlock = some k → B2 ≤ k := fun k hk => (FO.out.lt k hk).1
      have HO : Hid (OwI (wr.setRow b1 #[.int .i64 0, .slice va M.length vc]) w.heap.size (.slice va M.length vc) SL) := by
        refine FO4.out.kept (row := some b1) ⟨rfl, rfl, rfl, by simp, fun k _ hne => setRow_other wr b1 k _ (fun q => hne (by rw [q]))⟩ ?_
        by_cases c : (Value.slice va M.length vc).ownBlock = some b1
        · exact absurd (FO5 _ c) (by omega)
        · exact Or.inr c
      clear FO FO4 FO5 hr
      go_wp2_with (first | (refine load_blk 28 _ Try.underlying28 (by kernel_rfl) F2.out rfl rfl rfl ?_) | (refine store_blk [.int .i64 0, .slice va M.length vc] 28 _ _ (by kernel_rfl) (by kernel_rfl) (by kernel_rfl) F1.out rfl rfl rfl rfl ?_))
      exact bodyPost_ret (v := .agg #[.int .i64 0, .slice va M.length vc]) ((F1.out.row [.int .i64 0, .slice va M.length vc]).res _ Try.results5 Try.underlying28 (by kernel_rfl) rfl) rfl ⟨⟨_, rfl, HO.out⟩, below_row FB.out leb1 _⟩
end Go.Proofs.Ytdklllfafafmeaa
