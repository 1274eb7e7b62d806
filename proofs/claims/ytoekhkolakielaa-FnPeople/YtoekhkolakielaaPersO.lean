/-
  The model's ledger: a call put to it.
-/
import Derived.Test.YtoekhkolakielaaAdd7
import Derived.Test.YtoekhkolakielaaPersK
import Derived.Deep.RegionHeld3
import Derived.BigGuardPart
import Derived.Laws.AppendOwnNone
import Derived.OwnWalk
namespace Go.Proofs.Ytoekhkolakielaa
open Go.RowKit Pl
set_option linter.unusedSimpArgs false
set_option linter.unusedVariables false

theorem wp_append_none {w : World} {a : Act} {K : Act → World → Prop} {Q : Exit → Act → World → Prop} {s x : Operand} {dst : Option Tmp} {ty : TypeId} {ps : String} {af : Array Edge}
    (base : Nat) (v : Value) (n : Nat) (xs : List Value) (hs : a.eval s = v) (hown : w.ownsRow base 42 7 v n xs) (hx : a.eval x = .slice none 0 0)
    (h : K (a.put dst v) w) : Oper.wp Try.prog { dst := dst, op := .call { callee := .builtin .append, args := #[s, x], argTypes := #[26, 26] }, type := ty, pos := ps, after := af, guard := none } a w K Q := by
  obtain ⟨i, hi, _, _, _⟩ := info_parts infoPE
  have hrun := run_append_owned_none (P := Try.prog) (w := w) base 26 ty 42 i 7 undPS hi v n xs hown
  unfold Oper.wp
  simp [execOp, resolve, invoke, builtin, hs, hx, hrun, Result.andThen]
  exact h
/-- 'append' of people to a row of one's own that isn't nil. -/
theorem wp_append_pe {w : World} {a : Act} {K : Act → World → Prop} {Q : Exit → Act → World → Prop} {s x : Operand} {dst : Option Tmp} {ty : TypeId} {ps : String} {af : Array Edge}
    (B g0 n0 c0 : Nat) (l m : List Pe) (hs : a.eval s = .slice (some ⟨g0, 0, none⟩) n0 c0) (hown : Own w B (.slice (some ⟨g0, 0, none⟩) n0 c0) l) (ad : Addr) (c : Nat) (hx : a.eval x = .slice (some ad) m.length c)
    (hm : 0 < m.length → ∃ b o, ad = ⟨b, o, none⟩ ∧ ∀ i p, m[i]? = some p → P7 w b (o + i * 7) p) (hlen : l.length + m.length ≤ 1000) (hB : B ≤ w.heap.size)
    (h : ∀ g' c' w', Own w' B (.slice (some ⟨g', 0, none⟩) (l ++ m).length c') (l ++ m) → w.grownBy w' (some g0) → K (a.put dst (.slice (some ⟨g', 0, none⟩) (l ++ m).length c')) w') :
    Oper.wp Try.prog { dst := dst, op := .call { callee := .builtin .append, args := #[s, x], argTypes := #[26, 26] }, type := ty, pos := ps, after := af, guard := none } a w K Q := by
  obtain ⟨i, hi, hz, hsz, hby⟩ := info_parts infoPE
  have hnews : ∀ j u, (flat m)[j]? = some u → w.cell? (ad.add j) = some u := by
    by_cases h0 : 0 < m.length
    · obtain ⟨b, o, rfl, h7⟩ := hm h0
      exact news_at h7
    · have e : m = [] := List.eq_nil_of_length_eq_zero (by omega)
      subst e
      intro j u hu
      simp [flat] at hu
  refine wp_append_own (P := Try.prog) w s x 26 rfl B 42 i (.agg (cells7 zeroP).toArray) 7 56 undPS hi hz hsz hby rfl (by omega) _ l.length (flat l) hs hown ad m.length c (flat m) hx (flat_length m) hnews (flat_one m) (by unfold maxLen; omega) (by omega) hB ?_
  intro v' w' ho hg hn
  have ho' : Own w' B v' (l ++ m) := by
    unfold Own
    rw [List.length_append, flat_append]
    exact ho
  rcases ho'.cases with ⟨e, _⟩ | ⟨g', c', e, _⟩
  · have q := (hn.1 e).1
    cases q
  · subst e
    exact h g' c' w' ho' hg
theorem gr_new {a c d : World} {row : Option Nat} {e : Nat} (h : a.grownBy c row) (k : c.grownBy d (some e)) (he : a.heap.size ≤ e) : a.grownBy d row :=
  ⟨k.os.trans h.os, k.tape.trans h.tape, k.output.trans h.output, Nat.le_trans h.size k.size, fun i hi hne => (k.block i (Nat.lt_of_lt_of_le hi h.size) (fun q => by have := Option.some.inj q; omega)).trans (h.block i hi hne)⟩
theorem act_done (p : Pe) : (!act p) = doneB p := by
  unfold act doneB
  cases a : (p.st == 0) <;> cases b : (p.st == 1) <;> simp [bne, a, b]
/-- The first that is done, from the k-th on. -/
def oldAt (l : List Pe) (k : Nat) : Int := if fi (l.drop k) < (l.drop k).length then ((k + fi (l.drop k) : Nat) : Int) else -1
theorem oldAt_zero (l : List Pe) : oldAt l 0 = fiR l := by
  unfold oldAt fiR
  rw [List.drop_zero, Nat.zero_add]
theorem oldAt_end (l : List Pe) : oldAt l l.length = -1 := by
  unfold oldAt
  rw [List.drop_length]
  rfl
theorem oldAt_step {l : List Pe} {i : Nat} {p : Pe} (h : l[i]? = some p) : oldAt l i = if doneB p = true then (i : Int) else oldAt l (i + 1) := by
  have hi : i < l.length := (List.getElem?_eq_some_iff.1 h).1
  have e : l[i] = p := (List.getElem?_eq_some_iff.1 h).2
  unfold oldAt
  rw [List.drop_eq_getElem_cons hi, e]
  cases k : doneB p
  · have q : fi (p :: l.drop (i + 1)) = fi (l.drop (i + 1)) + 1 := by
      show (if doneB p = true then 0 else fi (l.drop (i + 1)) + 1) = _
      rw [k]
      rfl
    rw [q, List.length_cons]
    simp only [Bool.false_eq_true, if_false]
    by_cases c : fi (l.drop (i + 1)) < (l.drop (i + 1)).length
    · rw [if_pos (by omega), if_pos c]
      omega
    · rw [if_neg (by omega), if_neg c]
  · have q : fi (p :: l.drop (i + 1)) = 0 := by
      show (if doneB p = true then 0 else fi (l.drop (i + 1)) + 1) = _
      rw [k]
      rfl
    rw [q, if_pos (by simp), if_pos rfl]
    rfl
theorem oldAt_lt {l : List Pe} {i : Nat} : -1 ≤ oldAt l i ∧ oldAt l i ≤ l.length := by
  unfold oldAt
  have := fi_le (l.drop i)
  rw [List.length_drop] at *
  split <;> omega
def addPost (h : Hs) (lb B : Nat) (nx : Int) (l : List Pe) (f t sh ca : Int) (w : World) (e : Ending) (w' : World) : Prop :=
  e = .returned (.int .i64 (Hs.addC h ⟨nx, l⟩ f t sh ca)) ∧ ∃ v', LW w' lb (if Hs.addC h ⟨nx, l⟩ f t sh ca = 0 then nx + 1 else nx) v' ∧ Own w' B v' (if Hs.addC h ⟨nx, l⟩ f t sh ca = 0 then freeL l ++ [(⟨nx, f, t, sh, ca, 0, 0⟩ : Pe)] else l) ∧ v'.ownBlock ≠ some lb ∧ w.grownBy w' (some lb)
theorem cut_from2 (b o k n cap : Nat) (z : Int) (hz : z = (k : Int)) (hk : k ≤ n) : ∃ ad : Addr, (k < cap → ad = ⟨b, o + k * 7, none⟩) ∧ ∀ w, (Instr.slice 26 (.slice (some ⟨b, o, none⟩) n cap) (some (.int .i64 z)) none none).run Try.prog w = .ok (.slice (some ad) (n - k) (cap - k)) w := by
  by_cases c : k < cap
  · obtain ⟨dp, h1, h2⟩ := cut_from b o k n cap z hz hk
    rw [h1 c] at h2
    exact ⟨_, fun _ => rfl, h2⟩
  · by_cases c2 : cap = k
    · refine ⟨⟨b, o, none⟩, fun q => absurd q c, fun w => ?_⟩
      obtain ⟨i, hi, h0, hs, hb⟩ := info_parts infoPE
      have he : Try.prog.elem 26 = 42 := by kernel_rfl
      have hu : Try.prog.underlying 26 = some (.slice (Try.prog.elem 26)) := by rw [he]; exact undPS
      have hsz : (sizeOf (Try.prog.elem 26)).run Try.prog w = .ok 7 w := by
        rw [he]
        simp [sizeOf, typeInfo, hi, hs]
      subst hz
      rw [run_slice_l _ _ _ _ _ hu .i64 (k : Int) (by omega) (by omega), hsz, Int.toNat_natCast]
      simp [Result.andThen, sliced, c2]
    · refine ⟨(⟨b, o, none⟩ : Addr).add (k * 7), fun q => absurd q c, fun w => ?_⟩
      obtain ⟨i, hi, h0, hs, hb⟩ := info_parts infoPE
      have he : Try.prog.elem 26 = 42 := by kernel_rfl
      have hu : Try.prog.underlying 26 = some (.slice (Try.prog.elem 26)) := by rw [he]; exact undPS
      have hsz : (sizeOf (Try.prog.elem 26)).run Try.prog w = .ok 7 w := by
        rw [he]
        simp [sizeOf, typeInfo, hi, hs]
      subst hz
      rw [run_slice_l _ _ _ _ _ hu .i64 (k : Int) (by omega) (by omega), hsz, Int.toNat_natCast]
      simp [Result.andThen, sliced, c2]
theorem cut_to (g k n cap : Nat) (hk : k ≤ cap) : ∀ w, (Instr.slice 26 (.slice (some ⟨g, 0, none⟩) n cap) none (some (.int .i64 (k : Int))) none).run Try.prog w = .ok (.slice (some ⟨g, 0, none⟩) k cap) w := by
  intro w
  obtain ⟨i, hi, h0, hs, hb⟩ := info_parts infoPE
  have he : Try.prog.elem 26 = 42 := by kernel_rfl
  have hu : Try.prog.underlying 26 = some (.slice (Try.prog.elem 26)) := by rw [he]; exact undPS
  have hsz : (sizeOf (Try.prog.elem 26)).run Try.prog w = .ok 7 w := by
    rw [he]
    simp [sizeOf, typeInfo, hi, hs]
  rw [run_slice_h _ _ _ _ _ hu .i64 (k : Int) (by omega) (by omega), hsz, Int.toNat_natCast]
  simp [Result.andThen, sliced, Addr.add]
theorem P7.grew {W w : World} {b o : Nat} {p : Pe} {row : Option Nat} (a : P7 W b o p) (hg : W.grownBy w row) (hne : some b ≠ row) : P7 w b o p := a.of (fun _ => World.cell?_of_block (w := W) (hg.block b a.lt hne))
theorem take_get {l : List Pe} {k i : Nat} {p : Pe} (h : (l.take k)[i]? = some p) : l[i]? = some p := by
  rw [List.getElem?_take] at h
  split at h
  · exact h
  · cases h
set_option maxRecDepth 20000 in
set_option maxHeartbeats 16000000 in
theorem l7Add_row (h : Hs) (lb B : Nat) (g cap : Nat) (l : List Pe) (nx f t sh ca : Int) (n1 : -1000000000000000 ≤ nx) (n2 : nx ≤ 1000000000000000) (hl : l.length ≤ 60) (hne : lb ≠ g) (w : World) (hB : B ≤ w.heap.size) (hL : LW w lb nx (.slice (some ⟨g, 0, none⟩) l.length cap)) (ho : Ow w B g l.length cap l) :
    Calls Try.prog 59 #[.agg #[.int .i64 h.fl, .int .i64 h.gp, .int .i64 h.ln, .int .i64 h.rf, .int .i64 h.sp, .int .i64 h.pu, .int .i64 h.br, .int .i64 h.dr, .int .i64 h.lv, .int .i64 h.dO, .int .i64 h.ld, .int .i64 h.qu], .pointer (some ⟨lb, 0, none⟩), .int .i64 f, .int .i64 t, .int .i64 sh, .int .i64 ca] w (addPost h lb B nx l f t sh ca w) := by
  have llb := hL.lt
  have lgw := ho.bl.2
  unfold addPost
  obtain ⟨K, hK⟩ : ∃ K, Hs.addC h ⟨nx, l⟩ f t sh ca = K := ⟨_, rfl⟩
  rw [hK]
  unfold Hs.addC at hK
  dsimp only at hK
  by_cases hcall : Hs.call h f t = 0
  case neg =>
    rw [if_neg hcall] at hK
    subst hK
    rw [if_neg hcall, if_neg hcall]
    have hn : (Hs.call h f t != 0) = true := by simpa using hcall
    clear hcall
    go_enter Try.func59, Try.ntmps59
    go_upto_region 1 with fail
    obtain ⟨W0, hW0⟩ : ∃ W0, W0 = w.alloc (.cells #[.int .i64 h.fl, .int .i64 h.gp, .int .i64 h.ln, .int .i64 h.rf, .int .i64 h.sp, .int .i64 h.pu, .int .i64 h.br, .int .i64 h.dr, .int .i64 h.lv, .int .i64 h.dO, .int .i64 h.ld, .int .i64 h.qu] 25) := ⟨_, rfl⟩
    have F0 : Hid (HAt W0 w.heap.size h) := by rw [hW0]; exact HAt.at_ w h _ _ rfl
    have FL : Hid (LW W0 lb nx (.slice (some ⟨g, 0, none⟩) l.length cap)) := by rw [hW0]; exact hL.alloc _
    have FO : Hid (Ow W0 B g l.length cap l) := by rw [hW0]; exact ho.alloc _
    have FG : Hid (w.grownBy W0 (some lb)) := by rw [hW0]; exact grown_new _ _ _
    rw [← hW0]
    clear hW0
    obtain ⟨x0_0, x0_1, x0_2, x0_3, x0_4, x0_5, x0_6, x0_7, x0_8, x0_9, x0_10, x0_11⟩ := F0.out
    obtain ⟨v0, v1, v2, v3⟩ := FL.out
    go_upto_region 3 with (go_at_call 63; refine (specCallFault_any h f t _).mono ?_; rintro e w1 ⟨rfl, hb⟩; have F0 : Hid (HAt w1 w.heap.size h) := F0.out.below hb F0.out.lt; have FL : Hid (LW w1 lb nx (.slice (some ⟨g, 0, none⟩) l.length cap)) := FL.out.below hb FL.out.lt; have FO : Hid (Ow w1 B g l.length cap l) := FO.out.below hb FO.out.bl.2; have FG : Hid (w.grownBy w1 (some lb)) := gr_below FG.out hb; clear hb; obtain ⟨x0_0, x0_1, x0_2, x0_3, x0_4, x0_5, x0_6, x0_7, x0_8, x0_9, x0_10, x0_11⟩ := F0.out; obtain ⟨v0, v1, v2, v3⟩ := FL.out)
    go_wp2_with fail
    go_ret
    exact ⟨rfl, _, FL.out, FO.out.own, (fun e => hne (Option.some.inj e).symm), FG.out⟩
  rw [if_pos hcall] at hK
  cases kc : carB sh ca
  · rw [kc, if_neg (by simp)] at hK
    subst hK
    rw [if_neg (by omega), if_neg (by omega)]
    go_enter Try.func59, Try.ntmps59
    go_upto_region 1 with fail
    obtain ⟨W0, hW0⟩ : ∃ W0, W0 = w.alloc (.cells #[.int .i64 h.fl, .int .i64 h.gp, .int .i64 h.ln, .int .i64 h.rf, .int .i64 h.sp, .int .i64 h.pu, .int .i64 h.br, .int .i64 h.dr, .int .i64 h.lv, .int .i64 h.dO, .int .i64 h.ld, .int .i64 h.qu] 25) := ⟨_, rfl⟩
    have F0 : Hid (HAt W0 w.heap.size h) := by rw [hW0]; exact HAt.at_ w h _ _ rfl
    have FL : Hid (LW W0 lb nx (.slice (some ⟨g, 0, none⟩) l.length cap)) := by rw [hW0]; exact hL.alloc _
    have FO : Hid (Ow W0 B g l.length cap l) := by rw [hW0]; exact ho.alloc _
    have FG : Hid (w.grownBy W0 (some lb)) := by rw [hW0]; exact grown_new _ _ _
    rw [← hW0]
    clear hW0
    obtain ⟨x0_0, x0_1, x0_2, x0_3, x0_4, x0_5, x0_6, x0_7, x0_8, x0_9, x0_10, x0_11⟩ := F0.out
    obtain ⟨v0, v1, v2, v3⟩ := FL.out
    go_upto_region 5 with (first | (go_at_call 63; refine (specCallFault_any h f t _).mono ?_; rw [hcall]; rintro e w1 ⟨rfl, hb⟩; have F0 : Hid (HAt w1 w.heap.size h) := F0.out.below hb F0.out.lt; have FL : Hid (LW w1 lb nx (.slice (some ⟨g, 0, none⟩) l.length cap)) := FL.out.below hb FL.out.lt; have FO : Hid (Ow w1 B g l.length cap l) := FO.out.below hb FO.out.bl.2; have FG : Hid (w.grownBy w1 (some lb)) := gr_below FG.out hb; clear hb; obtain ⟨x0_0, x0_1, x0_2, x0_3, x0_4, x0_5, x0_6, x0_7, x0_8, x0_9, x0_10, x0_11⟩ := F0.out; obtain ⟨v0, v1, v2, v3⟩ := FL.out) | (go_at_call 39; refine (l7Car_any _ _ _).mono ?_; rw [kc]; rintro e w' ⟨rfl, hw⟩; obtain rfl := hw.symm; clear hw))
    go_wp2_with fail
    go_ret
    exact ⟨rfl, _, FL.out, FO.out.own, (fun e => hne (Option.some.inj e).symm), FG.out⟩
  rw [kc, if_pos rfl] at hK
  by_cases kq : h.qu ≤ (cnt 0 (-1) 0 l : Int)
  · rw [if_pos kq] at hK
    subst hK
    rw [if_neg (by omega), if_neg (by omega)]
    have bq : decide (h.qu ≤ (cnt 0 (-1) 0 l : Int)) = true := decide_eq_true kq
    clear kq
    go_enter Try.func59, Try.ntmps59
    go_upto_region 1 with fail
    obtain ⟨W0, hW0⟩ : ∃ W0, W0 = w.alloc (.cells #[.int .i64 h.fl, .int .i64 h.gp, .int .i64 h.ln, .int .i64 h.rf, .int .i64 h.sp, .int .i64 h.pu, .int .i64 h.br, .int .i64 h.dr, .int .i64 h.lv, .int .i64 h.dO, .int .i64 h.ld, .int .i64 h.qu] 25) := ⟨_, rfl⟩
    have F0 : Hid (HAt W0 w.heap.size h) := by rw [hW0]; exact HAt.at_ w h _ _ rfl
    have FL : Hid (LW W0 lb nx (.slice (some ⟨g, 0, none⟩) l.length cap)) := by rw [hW0]; exact hL.alloc _
    have FO : Hid (Ow W0 B g l.length cap l) := by rw [hW0]; exact ho.alloc _
    have FG : Hid (w.grownBy W0 (some lb)) := by rw [hW0]; exact grown_new _ _ _
    rw [← hW0]
    clear hW0
    obtain ⟨x0_0, x0_1, x0_2, x0_3, x0_4, x0_5, x0_6, x0_7, x0_8, x0_9, x0_10, x0_11⟩ := F0.out
    obtain ⟨v0, v1, v2, v3⟩ := FL.out
    go_upto_region 6 with (first | (go_at_call 63; refine (specCallFault_any h f t _).mono ?_; rw [hcall]; rintro e w1 ⟨rfl, hb⟩; have F0 : Hid (HAt w1 w.heap.size h) := F0.out.below hb F0.out.lt; have FL : Hid (LW w1 lb nx (.slice (some ⟨g, 0, none⟩) l.length cap)) := FL.out.below hb FL.out.lt; have FO : Hid (Ow w1 B g l.length cap l) := FO.out.below hb FO.out.bl.2; have FG : Hid (w.grownBy w1 (some lb)) := gr_below FG.out hb; clear hb; obtain ⟨x0_0, x0_1, x0_2, x0_3, x0_4, x0_5, x0_6, x0_7, x0_8, x0_9, x0_10, x0_11⟩ := F0.out; obtain ⟨v0, v1, v2, v3⟩ := FL.out) | (go_at_call 39; refine (l7Car_any _ _ _).mono ?_; rw [kc]; rintro e w' ⟨rfl, hw⟩; obtain rfl := hw.symm; clear hw))
    have F0 : Hid (HAt w1.drew w.heap.size h) := F0.out.below (Below.refl _ _).drew F0.out.lt
    have FL : Hid (LW w1.drew lb nx (.slice (some ⟨g, 0, none⟩) l.length cap)) := FL.out.below (Below.refl _ _).drew FL.out.lt
    have FO : Hid (Ow w1.drew B g l.length cap l) := FO.out.below (Below.refl _ _).drew FO.out.lt
    have FG : Hid (w.grownBy w1.drew (some lb)) := gr_drew FG.out
    have mq := F0.out.c11
    refine wp_region_held_drew (S := (fun w'' => w''.cell? ⟨w.heap.size, 11, none⟩ = some (.int .i64 h.qu))) (by kernel_rfl) (by (try dsimp only); first | exact mq | go_keep) (fun hHeld => ?_)
    obtain ⟨v_1, hw1⟩ : ∃ v_1, v_1 = w1.drew := ⟨_, rfl⟩
    have F0 : Hid (HAt v_1 w.heap.size h) := by rw [hw1]; exact F0.out
    have FL : Hid (LW v_1 lb nx (.slice (some ⟨g, 0, none⟩) l.length cap)) := by rw [hw1]; exact FL.out
    have FO : Hid (Ow v_1 B g l.length cap l) := by rw [hw1]; exact FO.out
    have FG : Hid (w.grownBy v_1 (some lb)) := by rw [hw1]; exact FG.out
    rw [← hw1] at hHeld ⊢
    clear hw1
    have mq := F0.out.c11
    refine tkz 0 rfl ?_
    refine tkz 2 rfl ?_
    refine tkz 3 rfl ?_
    refine wpAnyH_ready (rs := [1]) (by kernel_rfl) (by simp) ?_
    refine (AllReadyH.cons rfl (fun K hK => ?_) AllReadyH.nil)
    go_simp
    refine (l7Count_any lb nx (some ⟨g, 0, none⟩) cap l 0 (-1) 0 (by omega) _ FL.out.lat (FO.out.pin FO.out.bl.2)).mono ?_
    rintro e v_2 ⟨rfl, hb⟩
    have F0 : Hid (HAt v_2 w.heap.size h) := F0.out.below hb F0.out.lt
    have FL : Hid (LW v_2 lb nx (.slice (some ⟨g, 0, none⟩) l.length cap)) := FL.out.below hb FL.out.lt
    have FO : Hid (Ow v_2 B g l.length cap l) := FO.out.below hb FO.out.lt
    have FG : Hid (w.grownBy v_2 (some lb)) := gr_below FG.out hb
    clear hb
    have mq := F0.out.c11
    try dsimp only
    refine hK.out _ _ (by (try dsimp only); first | exact mq | go_keep) (fun hHeld => ?_)
    clear hK K
    try simp only [Act.put, List.getElem_toArray, List.getElem_cons_succ, List.getElem_cons_zero, List.setIfInBounds_toArray, List.set_cons_zero, List.set_cons_succ]
    refine tkz 4 rfl ?_
    refine wpAnyH_done (by kernel_rfl) ?_ _
    go_upto_region 7 with fail
    obtain ⟨w2, hW_⟩ : ∃ w2, w2 = v_2 := ⟨_, rfl⟩
    have F0 : Hid (HAt w2 w.heap.size h) := by rw [hW_]; exact F0.out
    have FL : Hid (LW w2 lb nx (.slice (some ⟨g, 0, none⟩) l.length cap)) := by rw [hW_]; exact FL.out
    have FO : Hid (Ow w2 B g l.length cap l) := by rw [hW_]; exact FO.out
    have FG : Hid (w.grownBy w2 (some lb)) := by rw [hW_]; exact FG.out
    rw [← hW_]
    clear hW_
    go_wp2_with fail
    go_ret
    exact ⟨rfl, _, FL.out, FO.out.own, (fun e => hne (Option.some.inj e).symm), FG.out⟩
  rw [if_neg kq] at hK
  have bq : decide (h.qu ≤ (cnt 0 (-1) 0 l : Int)) = false := decide_eq_false kq
  clear kq
  go_enter Try.func59, Try.ntmps59
  go_upto_region 1 with fail
  obtain ⟨W0, hW0⟩ : ∃ W0, W0 = w.alloc (.cells #[.int .i64 h.fl, .int .i64 h.gp, .int .i64 h.ln, .int .i64 h.rf, .int .i64 h.sp, .int .i64 h.pu, .int .i64 h.br, .int .i64 h.dr, .int .i64 h.lv, .int .i64 h.dO, .int .i64 h.ld, .int .i64 h.qu] 25) := ⟨_, rfl⟩
  have F0 : Hid (HAt W0 w.heap.size h) := by rw [hW0]; exact HAt.at_ w h _ _ rfl
  have FL : Hid (LW W0 lb nx (.slice (some ⟨g, 0, none⟩) l.length cap)) := by rw [hW0]; exact hL.alloc _
  have FO : Hid (Ow W0 B g l.length cap l) := by rw [hW0]; exact ho.alloc _
  have FG : Hid (w.grownBy W0 (some lb)) := by rw [hW0]; exact grown_new _ _ _
  rw [← hW0]
  clear hW0
  obtain ⟨x0_0, x0_1, x0_2, x0_3, x0_4, x0_5, x0_6, x0_7, x0_8, x0_9, x0_10, x0_11⟩ := F0.out
  obtain ⟨v0, v1, v2, v3⟩ := FL.out
  go_upto_region 6 with (first | (go_at_call 63; refine (specCallFault_any h f t _).mono ?_; rw [hcall]; rintro e w1 ⟨rfl, hb⟩; have F0 : Hid (HAt w1 w.heap.size h) := F0.out.below hb F0.out.lt; have FL : Hid (LW w1 lb nx (.slice (some ⟨g, 0, none⟩) l.length cap)) := FL.out.below hb FL.out.lt; have FO : Hid (Ow w1 B g l.length cap l) := FO.out.below hb FO.out.bl.2; have FG : Hid (w.grownBy w1 (some lb)) := gr_below FG.out hb; clear hb; obtain ⟨x0_0, x0_1, x0_2, x0_3, x0_4, x0_5, x0_6, x0_7, x0_8, x0_9, x0_10, x0_11⟩ := F0.out; obtain ⟨v0, v1, v2, v3⟩ := FL.out) | (go_at_call 39; refine (l7Car_any _ _ _).mono ?_; rw [kc]; rintro e w' ⟨rfl, hw⟩; obtain rfl := hw.symm; clear hw))
  have F0 : Hid (HAt w1.drew w.heap.size h) := F0.out.below (Below.refl _ _).drew F0.out.lt
  have FL : Hid (LW w1.drew lb nx (.slice (some ⟨g, 0, none⟩) l.length cap)) := FL.out.below (Below.refl _ _).drew FL.out.lt
  have FO : Hid (Ow w1.drew B g l.length cap l) := FO.out.below (Below.refl _ _).drew FO.out.lt
  have FG : Hid (w.grownBy w1.drew (some lb)) := gr_drew FG.out
  have mq := F0.out.c11
  refine wp_region_held_drew (S := (fun w'' => w''.cell? ⟨w.heap.size, 11, none⟩ = some (.int .i64 h.qu))) (by kernel_rfl) (by (try dsimp only); first | exact mq | go_keep) (fun hHeld => ?_)
  obtain ⟨v_3, hw1⟩ : ∃ v_3, v_3 = w1.drew := ⟨_, rfl⟩
  have F0 : Hid (HAt v_3 w.heap.size h) := by rw [hw1]; exact F0.out
  have FL : Hid (LW v_3 lb nx (.slice (some ⟨g, 0, none⟩) l.length cap)) := by rw [hw1]; exact FL.out
  have FO : Hid (Ow v_3 B g l.length cap l) := by rw [hw1]; exact FO.out
  have FG : Hid (w.grownBy v_3 (some lb)) := by rw [hw1]; exact FG.out
  rw [← hw1] at hHeld ⊢
  clear hw1
  have mq := F0.out.c11
  refine tkz 0 rfl ?_
  refine tkz 2 rfl ?_
  refine tkz 3 rfl ?_
  refine wpAnyH_ready (rs := [1]) (by kernel_rfl) (by simp) ?_
  refine (AllReadyH.cons rfl (fun K hK => ?_) AllReadyH.nil)
  go_simp
  refine (l7Count_any lb nx (some ⟨g, 0, none⟩) cap l 0 (-1) 0 (by omega) _ FL.out.lat (FO.out.pin FO.out.bl.2)).mono ?_
  rintro e v_4 ⟨rfl, hb⟩
  have F0 : Hid (HAt v_4 w.heap.size h) := F0.out.below hb F0.out.lt
  have FL : Hid (LW v_4 lb nx (.slice (some ⟨g, 0, none⟩) l.length cap)) := FL.out.below hb FL.out.lt
  have FO : Hid (Ow v_4 B g l.length cap l) := FO.out.below hb FO.out.lt
  have FG : Hid (w.grownBy v_4 (some lb)) := gr_below FG.out hb
  clear hb
  have mq := F0.out.c11
  try dsimp only
  refine hK.out _ _ (by (try dsimp only); first | exact mq | go_keep) (fun hHeld => ?_)
  clear hK K
  try simp only [Act.put, List.getElem_toArray, List.getElem_cons_succ, List.getElem_cons_zero, List.setIfInBounds_toArray, List.set_cons_zero, List.set_cons_succ]
  refine tkz 4 rfl ?_
  refine wpAnyH_done (by kernel_rfl) ?_ _
  go_upto_region 8 with fail
  obtain ⟨w2, hW_⟩ : ∃ w2, w2 = v_4 := ⟨_, rfl⟩
  have F0 : Hid (HAt w2 w.heap.size h) := by rw [hW_]; exact F0.out
  have FL : Hid (LW w2 lb nx (.slice (some ⟨g, 0, none⟩) l.length cap)) := by rw [hW_]; exact FL.out
  have FO : Hid (Ow w2 B g l.length cap l) := by rw [hW_]; exact FO.out
  have FG : Hid (w.grownBy w2 (some lb)) := by rw [hW_]; exact FG.out
  rw [← hW_]
  clear hW_
  obtain ⟨v0, v1, v2, v3⟩ := FL.out
  have ewl : IntKind.i64.wrap ((l.length : Int) - 1) = (l.length : Int) - 1 := IntWalk.i64_in _ (by omega)
  go_wp2_with fail
  go_loopw [14, 15] (fun oo ii wr => ((∃ i : Nat, ii = .int .i64 i ∧ i < l.length ∧ oo = .int .i64 (oldAt l (i + 1))) ∨ (ii = .int .i64 (-1) ∧ oo = .int .i64 (fiR l))) ∧ HAt wr w.heap.size h ∧ LW wr lb nx (.slice (some ⟨g, 0, none⟩) l.length cap) ∧ Ow wr B g l.length cap l ∧ w.grownBy wr (some lb)) (fun _ ii _ => (intOf ii + 1).toNat)
  case atStart =>
    refine ⟨?_, F0.out, FL.out, FO.out, FG.out⟩
    by_cases e : l.length = 0
    · exact Or.inr ⟨by rw [e]; rfl, by unfold fiR; rw [if_neg (by omega)]⟩
    · exact Or.inl ⟨l.length - 1, by first | (congr 1; omega) | (congr 1), by omega, by rw [show l.length - 1 + 1 = l.length by omega, oldAt_end]⟩
  case round =>
    obtain ⟨hcs, hF0, hFL, hFO, hFG⟩ := hrel
    clear F0 FL FO FG
    have F0 : Hid (HAt wr w.heap.size h) := hF0
    have FL : Hid (LW wr lb nx (.slice (some ⟨g, 0, none⟩) l.length cap)) := hFL
    have FO : Hid (Ow wr B g l.length cap l) := hFO
    have FG : Hid (w.grownBy wr (some lb)) := hFG
    clear hF0 hFL hFO hFG
    obtain ⟨v0, v1, v2, v3⟩ := FL.out
    rcases hcs with ⟨i, rfl, hil, rfl⟩ | ⟨rfl, rfl⟩
    · obtain ⟨p, hp⟩ : ∃ p, l[i]? = some p := ⟨_, List.getElem?_eq_getElem hil⟩
      have H0 : Hid (l[i]? = some p) := hp
      obtain ⟨d0, d1, d2, d3, d4, d5, d6⟩ := FO.out.p7 hp
      have ew : IntKind.i64.wrap ((i : Int) - 1) = (i : Int) - 1 := IntWalk.i64_in _ (by omega)
      clear hp
      cases ka : act p
      · have KD : Hid (doneB p = true) := by rw [← act_done, ka]; exact rfl
        have HO : Hid (oldAt l i = (i : Int)) := by rw [oldAt_step H0.out, KD.out]; exact rfl
        go_wp2_with (go_at_call 67; refine (l7Active_any p _).mono ?_; rw [ka]; rintro e w3 ⟨rfl, hb⟩; have F0 : Hid (HAt w3 w.heap.size h) := F0.out.below hb F0.out.lt; have FL : Hid (LW w3 lb nx (.slice (some ⟨g, 0, none⟩) l.length cap)) := FL.out.below hb FL.out.lt; have FO : Hid (Ow w3 B g l.length cap l) := FO.out.below hb FO.out.bl.2; have FG : Hid (w.grownBy w3 (some lb)) := gr_below FG.out hb; clear hb)
        go_roundw
        case rel =>
          refine ⟨?_, F0.out, FL.out, FO.out, FG.out⟩
          by_cases e : i = 0
          · subst e
            exact Or.inr ⟨by simp, by rw [← oldAt_zero, HO.out] <;> simp⟩
          · exact Or.inl ⟨i - 1, by first | (congr 1; omega) | (congr 1), by omega, by rw [show i - 1 + 1 = i by omega, HO.out]⟩
        case measure => simp [intOf] <;> omega
      · have KD : Hid (doneB p = false) := by rw [← act_done, ka]; exact rfl
        have HO : Hid (oldAt l i = oldAt l (i + 1)) := by rw [oldAt_step H0.out, KD.out]; exact rfl
        go_wp2_with (go_at_call 67; refine (l7Active_any p _).mono ?_; rw [ka]; rintro e w3 ⟨rfl, hb⟩; have F0 : Hid (HAt w3 w.heap.size h) := F0.out.below hb F0.out.lt; have FL : Hid (LW w3 lb nx (.slice (some ⟨g, 0, none⟩) l.length cap)) := FL.out.below hb FL.out.lt; have FO : Hid (Ow w3 B g l.length cap l) := FO.out.below hb FO.out.bl.2; have FG : Hid (w.grownBy w3 (some lb)) := gr_below FG.out hb; clear hb)
        go_roundw
        case rel =>
          refine ⟨?_, F0.out, FL.out, FO.out, FG.out⟩
          by_cases e : i = 0
          · subst e
            exact Or.inr ⟨by simp, by rw [← oldAt_zero, HO.out] <;> simp⟩
          · exact Or.inl ⟨i - 1, by first | (congr 1; omega) | (congr 1), by omega, by rw [show i - 1 + 1 = i by omega, HO.out]⟩
        case measure => simp [intOf] <;> omega
    · have hfl := fi_le l
      by_cases km : nx = 1000000000000000
      · rw [if_pos (Or.inl km)] at hK
        subst hK
        have bm : (nx == 1000000000000000) = true := by simpa using km
        clear km
        cases b60 : decide ((60 : Int) ≤ (l.length : Int))
        · go_wp2_with fail
          go_ret
          exact ⟨rfl, .slice (some ⟨g, 0, none⟩) l.length cap, (by first | exact FL.out | (rw [if_neg (by omega)]; exact FL.out)), (by first | exact FO.out.own | (rw [if_neg (by omega)]; exact FO.out.own)), (fun e => hne (Option.some.inj e).symm), FG.out⟩
        · cases bo : decide (fiR l < 0)
          · go_wp2_with fail
            go_ret
            exact ⟨rfl, .slice (some ⟨g, 0, none⟩) l.length cap, (by first | exact FL.out | (rw [if_neg (by omega)]; exact FL.out)), (by first | exact FO.out.own | (rw [if_neg (by omega)]; exact FO.out.own)), (fun e => hne (Option.some.inj e).symm), FG.out⟩
          · go_wp2_with fail
            go_ret
            exact ⟨rfl, .slice (some ⟨g, 0, none⟩) l.length cap, (by first | exact FL.out | (rw [if_neg (by omega)]; exact FL.out)), (by first | exact FO.out.own | (rw [if_neg (by omega)]; exact FO.out.own)), (fun e => hne (Option.some.inj e).symm), FG.out⟩
      have bm : (nx == 1000000000000000) = false := by simpa using km
      by_cases k60 : 60 ≤ l.length
      · by_cases ko : l.length ≤ fi l
        · rw [if_pos (Or.inr ⟨k60, ko⟩)] at hK
          subst hK
          have bo : decide (fiR l < 0) = true := decide_eq_true (by unfold fiR; rw [if_neg (by omega)]; omega)
          have b60 : decide ((60 : Int) ≤ (l.length : Int)) = true := decide_eq_true (by omega)
          clear km
          go_wp2_with fail
          go_ret
          exact ⟨rfl, .slice (some ⟨g, 0, none⟩) l.length cap, (by first | exact FL.out | (rw [if_neg (by omega)]; exact FL.out)), (by first | exact FO.out.own | (rw [if_neg (by omega)]; exact FO.out.own)), (fun e => hne (Option.some.inj e).symm), FG.out⟩
        · rw [if_neg (by omega)] at hK
          subst hK
          obtain ⟨k, hk⟩ : ∃ k, fi l = k := ⟨_, rfl⟩
          have er : fiR l = (k : Int) := by unfold fiR; rw [hk, if_pos (by omega)]
          have HF : Hid (freeL l ++ [(⟨nx, f, t, sh, ca, 0, 0⟩ : Pe)] = l.eraseIdx k ++ [(⟨nx, f, t, sh, ca, 0, 0⟩ : Pe)]) := by unfold freeL; rw [if_pos (by omega), hk]; exact rfl
          rw [er]
          have bo : decide ((k : Int) < 0) = false := decide_eq_false (by omega)
          have b60 : decide ((60 : Int) ≤ (l.length : Int)) = true := decide_eq_true (by omega)
          have hcap : l.length ≤ cap := (FO.out.own.cases.resolve_left (fun e => by have := e.1; cases this)).elim (fun g' q => by obtain ⟨c', e, q⟩ := q; injection e with e1 e2 e3; subst e3; exact q.2.2.1)
          have hc1 := cut_to g k l.length cap (by omega)
          obtain ⟨d2, D2_, hc2⟩ := cut_from2 g 0 (k + 1) l.length cap ((k : Int) + 1) (by omega) (by omega)
          have D2 : Hid (k + 1 < cap → d2 = ⟨g, 0 + (k + 1) * 7, none⟩) := D2_
          have ew1 : IntKind.i64.wrap ((k : Int) + 1) = (k : Int) + 1 := IntWalk.i64_in _ (by omega)
          have le1 : (l.take k).length = k := by rw [List.length_take]; omega
          have le2 : (l.drop (k + 1)).length = l.length - (k + 1) := List.length_drop ..
          have LEE : Hid ((l.eraseIdx k).length = l.length - 1) := by rw [List.length_eraseIdx, if_pos (by omega)]; exact rfl
          clear D2_ km er
          go_upto_region 18 with fail
          obtain ⟨wp_, hwp⟩ : ∃ wp_, wp_ = wr := ⟨_, rfl⟩
          subst hwp
          have F0 : Hid (HAt wp_.drew w.heap.size h) := F0.out.below (Below.refl _ _).drew F0.out.lt
          have FL : Hid (LW wp_.drew lb nx (.slice (some ⟨g, 0, none⟩) l.length cap)) := FL.out.below (Below.refl _ _).drew FL.out.lt
          have FO : Hid (Ow wp_.drew B g l.length cap l) := FO.out.below (Below.refl _ _).drew FO.out.lt
          have FG : Hid (w.grownBy wp_.drew (some lb)) := gr_drew FG.out
          refine wp_region_held_drew (S := (fun _ => True)) (by kernel_rfl) (by (try dsimp only); all_goals trivial) (fun hHeld => ?_)
          obtain ⟨v_5, hw1⟩ : ∃ v_5, v_5 = wp_.drew := ⟨_, rfl⟩
          have F0 : Hid (HAt v_5 w.heap.size h) := by rw [hw1]; exact F0.out
          have FL : Hid (LW v_5 lb nx (.slice (some ⟨g, 0, none⟩) l.length cap)) := by rw [hw1]; exact FL.out
          have FO : Hid (Ow v_5 B g l.length cap l) := by rw [hw1]; exact FO.out
          have FG : Hid (w.grownBy v_5 (some lb)) := by rw [hw1]; exact FG.out
          rw [← hw1]
          clear hw1
          refine tkz 1 rfl ?_
          refine tkz 2 rfl ?_
          refine tkz 3 rfl ?_
          refine tkz 5 rfl ?_
          refine tkz 6 rfl ?_
          refine tkz 7 rfl ?_
          refine tkz 8 rfl ?_
          refine wpAnyH_ready (rs := [0]) (by kernel_rfl) (by simp) ?_
          refine (AllReadyH.cons rfl (fun K hK => ?_) AllReadyH.nil)
          refine step_of rfl ?_
          go_simp
          obtain ⟨ea, hea⟩ : ∃ ea, ea = v_5.heap.size := ⟨_, rfl⟩
          have lea0 := F0.out.lt
          have lea1 := FL.out.lt
          have lea2 := FG.out.size
          have lea3 := FO.out.bl.2
          rw [← hea] at lea0 lea1 lea2 lea3
          obtain ⟨v_6, hw2⟩ : ∃ v_6, v_6 = v_5.alloc (.cells #[] 42) := ⟨_, rfl⟩
          have F0 : Hid (HAt v_6 w.heap.size h) := by rw [hw2]; exact F0.out.alloc _
          have FL : Hid (LW v_6 lb nx (.slice (some ⟨g, 0, none⟩) l.length cap)) := by rw [hw2]; exact FL.out.alloc _
          have FO : Hid (Ow v_6 B g l.length cap l) := by rw [hw2]; exact FO.out.alloc _
          have FG : Hid (w.grownBy v_6 (some lb)) := by rw [hw2]; exact grown_trans FG.out (grown_new _ _ _)
          have FE : Hid (Own v_6 ea (.slice (some ⟨ea, 0, none⟩) 0 0) []) := by rw [hw2, hea]; exact own_empty v_5 _ (Nat.le_refl _)
          rw [← hw2, ← hea]
          clear hw2 hea
          refine hK.out _ _ (by (try dsimp only); all_goals trivial) (fun hHeld => ?_)
          clear hK K
          try simp only [Act.put, List.getElem_toArray, List.getElem_cons_succ, List.getElem_cons_zero, List.setIfInBounds_toArray, List.set_cons_zero, List.set_cons_succ]
          refine wpAnyH_ready (rs := [4]) (by kernel_rfl) (by simp) ?_
          refine (AllReadyH.cons rfl (fun K hK => ?_) AllReadyH.nil)
          refine step_of rfl ?_
          refine wp_append_pe ea ea 0 0 [] (l.take k) rfl FE.out ⟨g, 0, none⟩ cap (by rw [le1]; rfl) (fun hpos => ⟨g, 0, rfl, fun i p hp => by rw [Nat.zero_add]; exact FO.out.p7 (take_get hp)⟩) (by simp <;> omega) (Nat.le_of_lt ((FE.out.lt ea rfl).2)) ?_
          intro g1 c1 v_7 ho hg
          rw [List.nil_append] at ho
          have F0 : Hid (HAt v_7 w.heap.size h) := F0.out.grown hg (fun e => by have e2 := Option.some.inj e; omega)
          have FL : Hid (LW v_7 lb nx (.slice (some ⟨g, 0, none⟩) l.length cap)) := FL.out.grown hg (fun e => by have e2 := Option.some.inj e; omega)
          have FO : Hid (Ow v_7 B g l.length cap l) := FO.out.kept hg (fun e => by have e2 := Option.some.inj e; omega)
          have FG : Hid (w.grownBy v_7 (some lb)) := gr_new FG.out hg (by omega)
          have FA : Hid (Own v_7 ea (.slice (some ⟨g1, 0, none⟩) (l.take k).length c1) (l.take k)) := ho
          have lg1 : ea ≤ g1 := (FA.out.lt g1 rfl).1
          rw [List.nil_append]
          clear ho hg
          refine hK.out _ _ (by (try dsimp only); all_goals trivial) (fun hHeld => ?_)
          clear hK K
          try simp only [Act.put, List.getElem_toArray, List.getElem_cons_succ, List.getElem_cons_zero, List.setIfInBounds_toArray, List.set_cons_zero, List.set_cons_succ]
          refine wpAnyH_ready (rs := [9]) (by kernel_rfl) (by simp) ?_
          refine (AllReadyH.cons rfl (fun K hK => ?_) AllReadyH.nil)
          refine step_of rfl ?_
          refine wp_append_pe ea g1 (l.take k).length c1 (l.take k) (l.drop (k + 1)) rfl FA.out d2 (cap - (k + 1)) (by rw [le2]; rfl) (fun hpos => ⟨g, 0 + (k + 1) * 7, D2.out (by omega), fun i p hp => by rw [List.getElem?_drop] at hp; have q := FO.out.p7 hp; rw [Nat.zero_add, ← Nat.add_mul]; exact q⟩) (by omega) (by have := (FA.out.lt g1 rfl).2; omega) ?_
          intro g2 c2 v_8 ho hg
          rw [← List.eraseIdx_eq_take_drop_succ] at ho
          have F0 : Hid (HAt v_8 w.heap.size h) := F0.out.grown hg (fun e => by have e2 := Option.some.inj e; omega)
          have FL : Hid (LW v_8 lb nx (.slice (some ⟨g, 0, none⟩) l.length cap)) := FL.out.grown hg (fun e => by have e2 := Option.some.inj e; omega)
          have FO : Hid (Ow v_8 B g l.length cap l) := FO.out.kept hg (fun e => by have e2 := Option.some.inj e; omega)
          have FG : Hid (w.grownBy v_8 (some lb)) := gr_new FG.out hg (by omega)
          have FQ : Hid (Own v_8 ea (.slice (some ⟨g2, 0, none⟩) (l.eraseIdx k).length c2) (l.eraseIdx k)) := ho
          have lg2 : ea ≤ g2 := (FQ.out.lt g2 rfl).1
          rw [← List.eraseIdx_eq_take_drop_succ]
          clear ho hg
          refine hK.out _ _ (by (try dsimp only); all_goals trivial) (fun hHeld => ?_)
          clear hK K
          try simp only [Act.put, List.getElem_toArray, List.getElem_cons_succ, List.getElem_cons_zero, List.setIfInBounds_toArray, List.set_cons_zero, List.set_cons_succ]
          refine tkz 10 rfl ?_
          refine wpAnyH_done (by kernel_rfl) ?_ _
          go_upto_region 19 with fail
          obtain ⟨wq, hW_⟩ : ∃ wq, wq = v_8 := ⟨_, rfl⟩
          have F0 : Hid (HAt wq w.heap.size h) := by rw [hW_]; exact F0.out
          have FL : Hid (LW wq lb nx (.slice (some ⟨g, 0, none⟩) l.length cap)) := by rw [hW_]; exact FL.out
          have FO : Hid (Ow wq B g l.length cap l) := by rw [hW_]; exact FO.out
          have FG : Hid (w.grownBy wq (some lb)) := by rw [hW_]; exact FG.out
          have FQ : Hid (Own wq ea (.slice (some ⟨g2, 0, none⟩) (l.eraseIdx k).length c2) (l.eraseIdx k)) := by rw [hW_]; exact FQ.out
          rw [← hW_]
          clear hW_
          have F0 : Hid (HAt wq.drew w.heap.size h) := F0.out.below (Below.refl _ _).drew F0.out.lt
          have FL : Hid (LW wq.drew lb nx (.slice (some ⟨g, 0, none⟩) l.length cap)) := FL.out.below (Below.refl _ _).drew FL.out.lt
          have FO : Hid (Ow wq.drew B g l.length cap l) := FO.out.below (Below.refl _ _).drew FO.out.lt
          have FG : Hid (w.grownBy wq.drew (some lb)) := gr_drew FG.out
          have FQ : Hid (Own wq.drew ea (.slice (some ⟨g2, 0, none⟩) (l.eraseIdx k).length c2) (l.eraseIdx k)) := FQ.out.drew
          have ml := FL.out.c0
          refine wp_region_held_drew (S := (fun w'' => w''.cell? ⟨lb, 0, none⟩ = some (.int .i64 nx))) (by kernel_rfl) (by (try dsimp only); first | exact ml | go_keep) (fun hHeld => ?_)
          obtain ⟨v_9, hw1⟩ : ∃ v_9, v_9 = wq.drew := ⟨_, rfl⟩
          have F0 : Hid (HAt v_9 w.heap.size h) := by rw [hw1]; exact F0.out
          have FL : Hid (LW v_9 lb nx (.slice (some ⟨g, 0, none⟩) l.length cap)) := by rw [hw1]; exact FL.out
          have FO : Hid (Ow v_9 B g l.length cap l) := by rw [hw1]; exact FO.out
          have FG : Hid (w.grownBy v_9 (some lb)) := by rw [hw1]; exact FG.out
          have FQ : Hid (Own v_9 ea (.slice (some ⟨g2, 0, none⟩) (l.eraseIdx k).length c2) (l.eraseIdx k)) := by rw [hw1]; exact FQ.out
          rw [← hw1] at hHeld ⊢
          clear hw1
          have ml := FL.out.c0
          refine tkz 0 rfl ?_
          refine tkz 2 rfl ?_
          refine tkz 4 rfl ?_
          refine tkz 5 rfl ?_
          refine tkz 6 rfl ?_
          refine tkz 7 rfl ?_
          refine tkz 8 rfl ?_
          refine tkz 9 rfl ?_
          refine tkz 10 rfl ?_
          refine tkz 11 rfl ?_
          refine tkz 12 rfl ?_
          refine wpAnyH_ready (rs := [1, 13]) (by kernel_rfl) (by simp) ?_
          refine (AllReadyH.cons rfl (fun K hK => ?_) (AllReadyH.cons rfl (fun K hK => ?_) AllReadyH.nil))
          · refine step_of rfl ?_
            go_simp
            obtain ⟨eb, heb⟩ : ∃ eb, eb = v_9.heap.size := ⟨_, rfl⟩
            have leb0 := F0.out.lt
            have leb1 := FL.out.lt
            have leb2 := FG.out.size
            rw [← heb] at leb0 leb1 leb2
            first | (have ly_ := FN.out.lt; rw [← heb] at ly_) | skip
            obtain ⟨v_10, hw2⟩ : ∃ v_10, v_10 = v_9.alloc (.cells #[] 42) := ⟨_, rfl⟩
            have F0 : Hid (HAt v_10 w.heap.size h) := by rw [hw2]; exact F0.out.alloc _
            have FL : Hid (LW v_10 lb nx (.slice (some ⟨g, 0, none⟩) l.length cap)) := by rw [hw2]; exact FL.out.alloc _
            have FO : Hid (Ow v_10 B g l.length cap l) := by rw [hw2]; exact FO.out.alloc _
            have FG : Hid (w.grownBy v_10 (some lb)) := by rw [hw2]; exact grown_trans FG.out (grown_new _ _ _)
            have FQ : Hid (Own v_10 ea (.slice (some ⟨g2, 0, none⟩) (l.eraseIdx k).length c2) (l.eraseIdx k)) := by rw [hw2]; exact FQ.out.alloc _
            have FE : Hid (Own v_10 eb (.slice (some ⟨eb, 0, none⟩) 0 0) []) := by rw [hw2, heb]; exact own_empty v_9 _ (Nat.le_refl _)
            rw [← hw2, ← heb]
            clear hw2 heb
            have ml := FL.out.c0
            refine hK.out _ _ (by (try dsimp only); first | exact ml | go_keep) (fun hHeld => ?_)
            clear hK K
            try simp only [Act.put, List.getElem_toArray, List.getElem_cons_succ, List.getElem_cons_zero, List.setIfInBounds_toArray, List.set_cons_zero, List.set_cons_succ]
            refine wpAnyH_ready (rs := [3, 13]) (by kernel_rfl) (by simp) ?_
            refine (AllReadyH.cons rfl (fun K hK => ?_) (AllReadyH.cons rfl (fun K hK => ?_) AllReadyH.nil))
            · refine step_of rfl ?_
              refine wp_append_pe eb eb 0 0 [] (l.eraseIdx k) rfl FE.out ⟨g2, 0, none⟩ c2 rfl (fun hpos => ⟨g2, 0, rfl, fun i p hp => by rw [Nat.zero_add]; exact FQ.out.ow.p7 hp⟩) (by have := LEE.out; (try simp only [List.length_nil, List.length_append, List.length_cons]); omega) (Nat.le_of_lt ((FE.out.lt eb rfl).2)) ?_
              intro g3 c3 v_11 ho hg
              rw [List.nil_append] at ho
              have F0 : Hid (HAt v_11 w.heap.size h) := F0.out.grown hg (fun e => by have e2 := Option.some.inj e; omega)
              have FL : Hid (LW v_11 lb nx (.slice (some ⟨g, 0, none⟩) l.length cap)) := FL.out.grown hg (fun e => by have e2 := Option.some.inj e; omega)
              have FO : Hid (Ow v_11 B g l.length cap l) := FO.out.kept hg (fun e => by have e2 := Option.some.inj e; omega)
              have FG : Hid (w.grownBy v_11 (some lb)) := gr_new FG.out hg (by omega)
              have FA : Hid (Own v_11 eb (.slice (some ⟨g3, 0, none⟩) ((l.eraseIdx k)).length c3) ((l.eraseIdx k))) := ho
              have lg3 : eb ≤ g3 := (FA.out.lt g3 rfl).1
              rw [List.nil_append]
              clear ho hg
              have ml := FL.out.c0
              refine hK.out _ _ (by (try dsimp only); first | exact ml | go_keep) (fun hHeld => ?_)
              clear hK K
              try simp only [Act.put, List.getElem_toArray, List.getElem_cons_succ, List.getElem_cons_zero, List.setIfInBounds_toArray, List.set_cons_zero, List.set_cons_succ]
              refine wpAnyH_ready (rs := [13]) (by kernel_rfl) (by simp) ?_
              refine (AllReadyH.cons rfl (fun K hK => ?_) AllReadyH.nil)
              refine step_of rfl ?_
              go_simp
              obtain ⟨nb, hnb⟩ : ∃ nb, nb = v_11.heap.size := ⟨_, rfl⟩
              have lnb0 := F0.out.lt
              have lnb1 := FL.out.lt
              have lnb2 := FG.out.size
              rw [← hnb] at lnb0 lnb1 lnb2
              first | (have lx_ := (FE.out.lt eb rfl).2; rw [← hnb] at lx_) | skip
              obtain ⟨v_12, hw2⟩ : ∃ v_12, v_12 = v_11.alloc (.cells #[.int .i64 nx, .int .i64 f, .int .i64 t, .int .i64 sh, .int .i64 ca, .int .i64 0, .int .i64 0] 42) := ⟨_, rfl⟩
              have F0 : Hid (HAt v_12 w.heap.size h) := by rw [hw2]; exact F0.out.alloc _
              have FL : Hid (LW v_12 lb nx (.slice (some ⟨g, 0, none⟩) l.length cap)) := by rw [hw2]; exact FL.out.alloc _
              have FO : Hid (Ow v_12 B g l.length cap l) := by rw [hw2]; exact FO.out.alloc _
              have FG : Hid (w.grownBy v_12 (some lb)) := by rw [hw2]; exact grown_trans FG.out (grown_new _ _ _)
              have FA : Hid (Own v_12 eb (.slice (some ⟨g3, 0, none⟩) ((l.eraseIdx k)).length c3) ((l.eraseIdx k))) := by rw [hw2]; exact FA.out.alloc _
              have FN : Hid (P7 v_12 nb 0 (⟨nx, f, t, sh, ca, 0, 0⟩ : Pe)) := by rw [hw2]; exact P7.at_ v_11 (⟨nx, f, t, sh, ca, 0, 0⟩ : Pe) _ _ hnb
              rw [← hw2, ← hnb]
              clear hw2 hnb
              have ml := FL.out.c0
              refine hK.out _ _ (by (try dsimp only); first | exact ml | go_keep) (fun hHeld => ?_)
              clear hK K
              try simp only [Act.put, List.getElem_toArray, List.getElem_cons_succ, List.getElem_cons_zero, List.setIfInBounds_toArray, List.set_cons_zero, List.set_cons_succ]
              refine wpAnyH_ready (rs := [14]) (by kernel_rfl) (by simp) ?_
              refine (AllReadyH.cons rfl (fun K hK => ?_) AllReadyH.nil)
              refine step_of rfl ?_
              refine wp_append_pe eb g3 ((l.eraseIdx k)).length c3 (l.eraseIdx k) [(⟨nx, f, t, sh, ca, 0, 0⟩ : Pe)] rfl FA.out ⟨nb, 0, none⟩ 1 rfl (fun _ => ⟨nb, 0, rfl, fun i p hp => by cases i with | zero => (simp at hp; subst hp; exact FN.out) | succ i => simp at hp⟩) (by have := LEE.out; (try simp only [List.length_nil, List.length_append, List.length_cons]); omega) (by have := (FA.out.lt g3 rfl).2; omega) ?_
              intro g4 c4 v_13 ho hg
              rw [show ((l.eraseIdx k) ++ [(⟨nx, f, t, sh, ca, 0, 0⟩ : Pe)]).length = ((l.eraseIdx k)).length + 1 from by rw [List.length_append]; rfl] at ho ⊢
              have F0 : Hid (HAt v_13 w.heap.size h) := F0.out.grown hg (fun e => by have e2 := Option.some.inj e; omega)
              have FL : Hid (LW v_13 lb nx (.slice (some ⟨g, 0, none⟩) l.length cap)) := FL.out.grown hg (fun e => by have e2 := Option.some.inj e; omega)
              have FO : Hid (Ow v_13 B g l.length cap l) := FO.out.kept hg (fun e => by have e2 := Option.some.inj e; omega)
              have FG : Hid (w.grownBy v_13 (some lb)) := gr_new FG.out hg (by omega)
              have FZ : Hid (Own v_13 eb (.slice (some ⟨g4, 0, none⟩) (((l.eraseIdx k)).length + 1) c4) ((l.eraseIdx k) ++ [(⟨nx, f, t, sh, ca, 0, 0⟩ : Pe)])) := ho
              have lg4 : eb ≤ g4 := (FZ.out.lt g4 rfl).1
              clear ho hg
              have ml := FL.out.c0
              refine hK.out _ _ (by (try dsimp only); first | exact ml | go_keep) (fun hHeld => ?_)
              clear hK K
              try simp only [Act.put, List.getElem_toArray, List.getElem_cons_succ, List.getElem_cons_zero, List.setIfInBounds_toArray, List.set_cons_zero, List.set_cons_succ]
              refine tkz 15 rfl ?_
              refine tkz 16 rfl ?_
              refine wpAnyH_ready (rs := [17]) (by kernel_rfl) (by simp) ?_
              refine (AllReadyH.cons rfl (fun K hK => ?_) AllReadyH.nil)
              obtain ⟨k0, k1, k2, k3⟩ := FL.out
              go_simp
              obtain ⟨v_14, hw2⟩ : ∃ v_14, v_14 = v_13.setCell ⟨lb, 1, none⟩ (.slice (some ⟨g4, 0, none⟩) (((l.eraseIdx k)).length + 1) c4) := ⟨_, rfl⟩
              change K _ (v_13.setCell ⟨lb, 1, none⟩ (.slice (some ⟨g4, 0, none⟩) (((l.eraseIdx k)).length + 1) c4))
              rw [← hw2]
              clear k0 k1 k2 k3
              have FL : Hid (LW v_14 lb nx (.slice (some ⟨g4, 0, none⟩) (((l.eraseIdx k)).length + 1) c4)) := by rw [hw2]; exact FL.out.set1 _
              have FG : Hid (w.grownBy v_14 (some lb)) := by rw [hw2]; exact grown_trans FG.out (grown_set1 _ lb _ _)
              have FZ : Hid (Own v_14 eb (.slice (some ⟨g4, 0, none⟩) (((l.eraseIdx k)).length + 1) c4) ((l.eraseIdx k) ++ [(⟨nx, f, t, sh, ca, 0, 0⟩ : Pe)])) := by rw [hw2]; exact FZ.out.other (fun e => by have e2 := Option.some.inj e; simp at e2; omega) _
              clear hw2
              have ml := FL.out.c0
              refine hK.out _ _ (by (try dsimp only); first | exact ml | go_keep) (fun hHeld => ?_)
              clear hK K
              try simp only [Act.put, List.getElem_toArray, List.getElem_cons_succ, List.getElem_cons_zero, List.setIfInBounds_toArray, List.set_cons_zero, List.set_cons_succ]
              refine wpAnyH_done (by kernel_rfl) ?_ _
              go_upto_region 20 with fail
              obtain ⟨k0, k1, k2, k3⟩ := FL.out
              have ex : IntKind.i64.wrap (nx + 1) = nx + 1 := IntWalk.i64_in _ (by omega)
              go_wp2_with fail
              go_ret
              exact ⟨rfl, .slice (some ⟨g4, 0, none⟩) (((l.eraseIdx k)).length + 1) c4, (by first | exact FL.out.set0 _ | (rw [if_pos rfl]; exact FL.out.set0 _)), by (have q := (FZ.out.base (show B ≤ eb by omega)).other (p := ⟨lb, 0, none⟩) (fun e => by have e2 := Option.some.inj e; simp at e2; omega) (.int .i64 (nx + 1))); first | (rw [HF.out]; exact q) | (rw [if_pos rfl, HF.out]; exact q), (fun e => by have e2 := Option.some.inj e; simp at e2; omega), grown_trans FG.out (grown_set1 _ lb _ _)⟩
            · refine step_of rfl ?_
              go_simp
              obtain ⟨nb, hnb⟩ : ∃ nb, nb = v_10.heap.size := ⟨_, rfl⟩
              have lnb0 := F0.out.lt
              have lnb1 := FL.out.lt
              have lnb2 := FG.out.size
              rw [← hnb] at lnb0 lnb1 lnb2
              first | (have lx_ := (FE.out.lt eb rfl).2; rw [← hnb] at lx_) | skip
              obtain ⟨v_15, hw2⟩ : ∃ v_15, v_15 = v_10.alloc (.cells #[.int .i64 nx, .int .i64 f, .int .i64 t, .int .i64 sh, .int .i64 ca, .int .i64 0, .int .i64 0] 42) := ⟨_, rfl⟩
              have F0 : Hid (HAt v_15 w.heap.size h) := by rw [hw2]; exact F0.out.alloc _
              have FL : Hid (LW v_15 lb nx (.slice (some ⟨g, 0, none⟩) l.length cap)) := by rw [hw2]; exact FL.out.alloc _
              have FO : Hid (Ow v_15 B g l.length cap l) := by rw [hw2]; exact FO.out.alloc _
              have FG : Hid (w.grownBy v_15 (some lb)) := by rw [hw2]; exact grown_trans FG.out (grown_new _ _ _)
              have FQ : Hid (Own v_15 ea (.slice (some ⟨g2, 0, none⟩) (l.eraseIdx k).length c2) (l.eraseIdx k)) := by rw [hw2]; exact FQ.out.alloc _
              have FE : Hid (Own v_15 eb (.slice (some ⟨eb, 0, none⟩) 0 0) []) := by rw [hw2]; exact FE.out.alloc _
              have FN : Hid (P7 v_15 nb 0 (⟨nx, f, t, sh, ca, 0, 0⟩ : Pe)) := by rw [hw2]; exact P7.at_ v_10 (⟨nx, f, t, sh, ca, 0, 0⟩ : Pe) _ _ hnb
              rw [← hw2, ← hnb]
              clear hw2 hnb
              have ml := FL.out.c0
              refine hK.out _ _ (by (try dsimp only); first | exact ml | go_keep) (fun hHeld => ?_)
              clear hK K
              try simp only [Act.put, List.getElem_toArray, List.getElem_cons_succ, List.getElem_cons_zero, List.setIfInBounds_toArray, List.set_cons_zero, List.set_cons_succ]
              refine wpAnyH_ready (rs := [3]) (by kernel_rfl) (by simp) ?_
              refine (AllReadyH.cons rfl (fun K hK => ?_) AllReadyH.nil)
              refine step_of rfl ?_
              refine wp_append_pe eb eb 0 0 [] (l.eraseIdx k) rfl FE.out ⟨g2, 0, none⟩ c2 rfl (fun hpos => ⟨g2, 0, rfl, fun i p hp => by rw [Nat.zero_add]; exact FQ.out.ow.p7 hp⟩) (by have := LEE.out; (try simp only [List.length_nil, List.length_append, List.length_cons]); omega) (Nat.le_of_lt ((FE.out.lt eb rfl).2)) ?_
              intro g3 c3 v_16 ho hg
              rw [List.nil_append] at ho
              have F0 : Hid (HAt v_16 w.heap.size h) := F0.out.grown hg (fun e => by have e2 := Option.some.inj e; omega)
              have FL : Hid (LW v_16 lb nx (.slice (some ⟨g, 0, none⟩) l.length cap)) := FL.out.grown hg (fun e => by have e2 := Option.some.inj e; omega)
              have FO : Hid (Ow v_16 B g l.length cap l) := FO.out.kept hg (fun e => by have e2 := Option.some.inj e; omega)
              have FG : Hid (w.grownBy v_16 (some lb)) := gr_new FG.out hg (by omega)
              have FN : Hid (P7 v_16 nb 0 (⟨nx, f, t, sh, ca, 0, 0⟩ : Pe)) := FN.out.grew hg (fun e => by have e2 := Option.some.inj e; omega)
              have FA : Hid (Own v_16 eb (.slice (some ⟨g3, 0, none⟩) ((l.eraseIdx k)).length c3) ((l.eraseIdx k))) := ho
              have lg3 : eb ≤ g3 := (FA.out.lt g3 rfl).1
              rw [List.nil_append]
              clear ho hg
              have ml := FL.out.c0
              refine hK.out _ _ (by (try dsimp only); first | exact ml | go_keep) (fun hHeld => ?_)
              clear hK K
              try simp only [Act.put, List.getElem_toArray, List.getElem_cons_succ, List.getElem_cons_zero, List.setIfInBounds_toArray, List.set_cons_zero, List.set_cons_succ]
              refine wpAnyH_ready (rs := [14]) (by kernel_rfl) (by simp) ?_
              refine (AllReadyH.cons rfl (fun K hK => ?_) AllReadyH.nil)
              refine step_of rfl ?_
              refine wp_append_pe eb g3 ((l.eraseIdx k)).length c3 (l.eraseIdx k) [(⟨nx, f, t, sh, ca, 0, 0⟩ : Pe)] rfl FA.out ⟨nb, 0, none⟩ 1 rfl (fun _ => ⟨nb, 0, rfl, fun i p hp => by cases i with | zero => (simp at hp; subst hp; exact FN.out) | succ i => simp at hp⟩) (by have := LEE.out; (try simp only [List.length_nil, List.length_append, List.length_cons]); omega) (by have := (FA.out.lt g3 rfl).2; omega) ?_
              intro g4 c4 v_17 ho hg
              rw [show ((l.eraseIdx k) ++ [(⟨nx, f, t, sh, ca, 0, 0⟩ : Pe)]).length = ((l.eraseIdx k)).length + 1 from by rw [List.length_append]; rfl] at ho ⊢
              have F0 : Hid (HAt v_17 w.heap.size h) := F0.out.grown hg (fun e => by have e2 := Option.some.inj e; omega)
              have FL : Hid (LW v_17 lb nx (.slice (some ⟨g, 0, none⟩) l.length cap)) := FL.out.grown hg (fun e => by have e2 := Option.some.inj e; omega)
              have FO : Hid (Ow v_17 B g l.length cap l) := FO.out.kept hg (fun e => by have e2 := Option.some.inj e; omega)
              have FG : Hid (w.grownBy v_17 (some lb)) := gr_new FG.out hg (by omega)
              have FZ : Hid (Own v_17 eb (.slice (some ⟨g4, 0, none⟩) (((l.eraseIdx k)).length + 1) c4) ((l.eraseIdx k) ++ [(⟨nx, f, t, sh, ca, 0, 0⟩ : Pe)])) := ho
              have lg4 : eb ≤ g4 := (FZ.out.lt g4 rfl).1
              clear ho hg
              have ml := FL.out.c0
              refine hK.out _ _ (by (try dsimp only); first | exact ml | go_keep) (fun hHeld => ?_)
              clear hK K
              try simp only [Act.put, List.getElem_toArray, List.getElem_cons_succ, List.getElem_cons_zero, List.setIfInBounds_toArray, List.set_cons_zero, List.set_cons_succ]
              refine tkz 15 rfl ?_
              refine tkz 16 rfl ?_
              refine wpAnyH_ready (rs := [17]) (by kernel_rfl) (by simp) ?_
              refine (AllReadyH.cons rfl (fun K hK => ?_) AllReadyH.nil)
              obtain ⟨k0, k1, k2, k3⟩ := FL.out
              go_simp
              obtain ⟨v_18, hw2⟩ : ∃ v_18, v_18 = v_17.setCell ⟨lb, 1, none⟩ (.slice (some ⟨g4, 0, none⟩) (((l.eraseIdx k)).length + 1) c4) := ⟨_, rfl⟩
              change K _ (v_17.setCell ⟨lb, 1, none⟩ (.slice (some ⟨g4, 0, none⟩) (((l.eraseIdx k)).length + 1) c4))
              rw [← hw2]
              clear k0 k1 k2 k3
              have FL : Hid (LW v_18 lb nx (.slice (some ⟨g4, 0, none⟩) (((l.eraseIdx k)).length + 1) c4)) := by rw [hw2]; exact FL.out.set1 _
              have FG : Hid (w.grownBy v_18 (some lb)) := by rw [hw2]; exact grown_trans FG.out (grown_set1 _ lb _ _)
              have FZ : Hid (Own v_18 eb (.slice (some ⟨g4, 0, none⟩) (((l.eraseIdx k)).length + 1) c4) ((l.eraseIdx k) ++ [(⟨nx, f, t, sh, ca, 0, 0⟩ : Pe)])) := by rw [hw2]; exact FZ.out.other (fun e => by have e2 := Option.some.inj e; simp at e2; omega) _
              clear hw2
              have ml := FL.out.c0
              refine hK.out _ _ (by (try dsimp only); first | exact ml | go_keep) (fun hHeld => ?_)
              clear hK K
              try simp only [Act.put, List.getElem_toArray, List.getElem_cons_succ, List.getElem_cons_zero, List.setIfInBounds_toArray, List.set_cons_zero, List.set_cons_succ]
              refine wpAnyH_done (by kernel_rfl) ?_ _
              go_upto_region 20 with fail
              obtain ⟨k0, k1, k2, k3⟩ := FL.out
              have ex : IntKind.i64.wrap (nx + 1) = nx + 1 := IntWalk.i64_in _ (by omega)
              go_wp2_with fail
              go_ret
              exact ⟨rfl, .slice (some ⟨g4, 0, none⟩) (((l.eraseIdx k)).length + 1) c4, (by first | exact FL.out.set0 _ | (rw [if_pos rfl]; exact FL.out.set0 _)), by (have q := (FZ.out.base (show B ≤ eb by omega)).other (p := ⟨lb, 0, none⟩) (fun e => by have e2 := Option.some.inj e; simp at e2; omega) (.int .i64 (nx + 1))); first | (rw [HF.out]; exact q) | (rw [if_pos rfl, HF.out]; exact q), (fun e => by have e2 := Option.some.inj e; simp at e2; omega), grown_trans FG.out (grown_set1 _ lb _ _)⟩
          · refine step_of rfl ?_
            go_simp
            obtain ⟨nb, hnb⟩ : ∃ nb, nb = v_9.heap.size := ⟨_, rfl⟩
            have lnb0 := F0.out.lt
            have lnb1 := FL.out.lt
            have lnb2 := FG.out.size
            rw [← hnb] at lnb0 lnb1 lnb2
            first | (have lx_ := (FE.out.lt eb rfl).2; rw [← hnb] at lx_) | skip
            obtain ⟨v_19, hw2⟩ : ∃ v_19, v_19 = v_9.alloc (.cells #[.int .i64 nx, .int .i64 f, .int .i64 t, .int .i64 sh, .int .i64 ca, .int .i64 0, .int .i64 0] 42) := ⟨_, rfl⟩
            have F0 : Hid (HAt v_19 w.heap.size h) := by rw [hw2]; exact F0.out.alloc _
            have FL : Hid (LW v_19 lb nx (.slice (some ⟨g, 0, none⟩) l.length cap)) := by rw [hw2]; exact FL.out.alloc _
            have FO : Hid (Ow v_19 B g l.length cap l) := by rw [hw2]; exact FO.out.alloc _
            have FG : Hid (w.grownBy v_19 (some lb)) := by rw [hw2]; exact grown_trans FG.out (grown_new _ _ _)
            have FQ : Hid (Own v_19 ea (.slice (some ⟨g2, 0, none⟩) (l.eraseIdx k).length c2) (l.eraseIdx k)) := by rw [hw2]; exact FQ.out.alloc _
            have FN : Hid (P7 v_19 nb 0 (⟨nx, f, t, sh, ca, 0, 0⟩ : Pe)) := by rw [hw2]; exact P7.at_ v_9 (⟨nx, f, t, sh, ca, 0, 0⟩ : Pe) _ _ hnb
            rw [← hw2, ← hnb]
            clear hw2 hnb
            have ml := FL.out.c0
            refine hK.out _ _ (by (try dsimp only); first | exact ml | go_keep) (fun hHeld => ?_)
            clear hK K
            try simp only [Act.put, List.getElem_toArray, List.getElem_cons_succ, List.getElem_cons_zero, List.setIfInBounds_toArray, List.set_cons_zero, List.set_cons_succ]
            refine wpAnyH_ready (rs := [1]) (by kernel_rfl) (by simp) ?_
            refine (AllReadyH.cons rfl (fun K hK => ?_) AllReadyH.nil)
            refine step_of rfl ?_
            go_simp
            obtain ⟨eb, heb⟩ : ∃ eb, eb = v_19.heap.size := ⟨_, rfl⟩
            have leb0 := F0.out.lt
            have leb1 := FL.out.lt
            have leb2 := FG.out.size
            rw [← heb] at leb0 leb1 leb2
            first | (have ly_ := FN.out.lt; rw [← heb] at ly_) | skip
            obtain ⟨v_20, hw2⟩ : ∃ v_20, v_20 = v_19.alloc (.cells #[] 42) := ⟨_, rfl⟩
            have F0 : Hid (HAt v_20 w.heap.size h) := by rw [hw2]; exact F0.out.alloc _
            have FL : Hid (LW v_20 lb nx (.slice (some ⟨g, 0, none⟩) l.length cap)) := by rw [hw2]; exact FL.out.alloc _
            have FO : Hid (Ow v_20 B g l.length cap l) := by rw [hw2]; exact FO.out.alloc _
            have FG : Hid (w.grownBy v_20 (some lb)) := by rw [hw2]; exact grown_trans FG.out (grown_new _ _ _)
            have FQ : Hid (Own v_20 ea (.slice (some ⟨g2, 0, none⟩) (l.eraseIdx k).length c2) (l.eraseIdx k)) := by rw [hw2]; exact FQ.out.alloc _
            have FN : Hid (P7 v_20 nb 0 (⟨nx, f, t, sh, ca, 0, 0⟩ : Pe)) := by rw [hw2]; exact FN.out.alloc _
            have FE : Hid (Own v_20 eb (.slice (some ⟨eb, 0, none⟩) 0 0) []) := by rw [hw2, heb]; exact own_empty v_19 _ (Nat.le_refl _)
            rw [← hw2, ← heb]
            clear hw2 heb
            have ml := FL.out.c0
            refine hK.out _ _ (by (try dsimp only); first | exact ml | go_keep) (fun hHeld => ?_)
            clear hK K
            try simp only [Act.put, List.getElem_toArray, List.getElem_cons_succ, List.getElem_cons_zero, List.setIfInBounds_toArray, List.set_cons_zero, List.set_cons_succ]
            refine wpAnyH_ready (rs := [3]) (by kernel_rfl) (by simp) ?_
            refine (AllReadyH.cons rfl (fun K hK => ?_) AllReadyH.nil)
            refine step_of rfl ?_
            refine wp_append_pe eb eb 0 0 [] (l.eraseIdx k) rfl FE.out ⟨g2, 0, none⟩ c2 rfl (fun hpos => ⟨g2, 0, rfl, fun i p hp => by rw [Nat.zero_add]; exact FQ.out.ow.p7 hp⟩) (by have := LEE.out; (try simp only [List.length_nil, List.length_append, List.length_cons]); omega) (Nat.le_of_lt ((FE.out.lt eb rfl).2)) ?_
            intro g3 c3 v_21 ho hg
            rw [List.nil_append] at ho
            have F0 : Hid (HAt v_21 w.heap.size h) := F0.out.grown hg (fun e => by have e2 := Option.some.inj e; omega)
            have FL : Hid (LW v_21 lb nx (.slice (some ⟨g, 0, none⟩) l.length cap)) := FL.out.grown hg (fun e => by have e2 := Option.some.inj e; omega)
            have FO : Hid (Ow v_21 B g l.length cap l) := FO.out.kept hg (fun e => by have e2 := Option.some.inj e; omega)
            have FG : Hid (w.grownBy v_21 (some lb)) := gr_new FG.out hg (by omega)
            have FN : Hid (P7 v_21 nb 0 (⟨nx, f, t, sh, ca, 0, 0⟩ : Pe)) := FN.out.grew hg (fun e => by have e2 := Option.some.inj e; omega)
            have FA : Hid (Own v_21 eb (.slice (some ⟨g3, 0, none⟩) ((l.eraseIdx k)).length c3) ((l.eraseIdx k))) := ho
            have lg3 : eb ≤ g3 := (FA.out.lt g3 rfl).1
            rw [List.nil_append]
            clear ho hg
            have ml := FL.out.c0
            refine hK.out _ _ (by (try dsimp only); first | exact ml | go_keep) (fun hHeld => ?_)
            clear hK K
            try simp only [Act.put, List.getElem_toArray, List.getElem_cons_succ, List.getElem_cons_zero, List.setIfInBounds_toArray, List.set_cons_zero, List.set_cons_succ]
            refine wpAnyH_ready (rs := [14]) (by kernel_rfl) (by simp) ?_
            refine (AllReadyH.cons rfl (fun K hK => ?_) AllReadyH.nil)
            refine step_of rfl ?_
            refine wp_append_pe eb g3 ((l.eraseIdx k)).length c3 (l.eraseIdx k) [(⟨nx, f, t, sh, ca, 0, 0⟩ : Pe)] rfl FA.out ⟨nb, 0, none⟩ 1 rfl (fun _ => ⟨nb, 0, rfl, fun i p hp => by cases i with | zero => (simp at hp; subst hp; exact FN.out) | succ i => simp at hp⟩) (by have := LEE.out; (try simp only [List.length_nil, List.length_append, List.length_cons]); omega) (by have := (FA.out.lt g3 rfl).2; omega) ?_
            intro g4 c4 v_22 ho hg
            rw [show ((l.eraseIdx k) ++ [(⟨nx, f, t, sh, ca, 0, 0⟩ : Pe)]).length = ((l.eraseIdx k)).length + 1 from by rw [List.length_append]; rfl] at ho ⊢
            have F0 : Hid (HAt v_22 w.heap.size h) := F0.out.grown hg (fun e => by have e2 := Option.some.inj e; omega)
            have FL : Hid (LW v_22 lb nx (.slice (some ⟨g, 0, none⟩) l.length cap)) := FL.out.grown hg (fun e => by have e2 := Option.some.inj e; omega)
            have FO : Hid (Ow v_22 B g l.length cap l) := FO.out.kept hg (fun e => by have e2 := Option.some.inj e; omega)
            have FG : Hid (w.grownBy v_22 (some lb)) := gr_new FG.out hg (by omega)
            have FZ : Hid (Own v_22 eb (.slice (some ⟨g4, 0, none⟩) (((l.eraseIdx k)).length + 1) c4) ((l.eraseIdx k) ++ [(⟨nx, f, t, sh, ca, 0, 0⟩ : Pe)])) := ho
            have lg4 : eb ≤ g4 := (FZ.out.lt g4 rfl).1
            clear ho hg
            have ml := FL.out.c0
            refine hK.out _ _ (by (try dsimp only); first | exact ml | go_keep) (fun hHeld => ?_)
            clear hK K
            try simp only [Act.put, List.getElem_toArray, List.getElem_cons_succ, List.getElem_cons_zero, List.setIfInBounds_toArray, List.set_cons_zero, List.set_cons_succ]
            refine tkz 15 rfl ?_
            refine tkz 16 rfl ?_
            refine wpAnyH_ready (rs := [17]) (by kernel_rfl) (by simp) ?_
            refine (AllReadyH.cons rfl (fun K hK => ?_) AllReadyH.nil)
            obtain ⟨k0, k1, k2, k3⟩ := FL.out
            go_simp
            obtain ⟨v_23, hw2⟩ : ∃ v_23, v_23 = v_22.setCell ⟨lb, 1, none⟩ (.slice (some ⟨g4, 0, none⟩) (((l.eraseIdx k)).length + 1) c4) := ⟨_, rfl⟩
            change K _ (v_22.setCell ⟨lb, 1, none⟩ (.slice (some ⟨g4, 0, none⟩) (((l.eraseIdx k)).length + 1) c4))
            rw [← hw2]
            clear k0 k1 k2 k3
            have FL : Hid (LW v_23 lb nx (.slice (some ⟨g4, 0, none⟩) (((l.eraseIdx k)).length + 1) c4)) := by rw [hw2]; exact FL.out.set1 _
            have FG : Hid (w.grownBy v_23 (some lb)) := by rw [hw2]; exact grown_trans FG.out (grown_set1 _ lb _ _)
            have FZ : Hid (Own v_23 eb (.slice (some ⟨g4, 0, none⟩) (((l.eraseIdx k)).length + 1) c4) ((l.eraseIdx k) ++ [(⟨nx, f, t, sh, ca, 0, 0⟩ : Pe)])) := by rw [hw2]; exact FZ.out.other (fun e => by have e2 := Option.some.inj e; simp at e2; omega) _
            clear hw2
            have ml := FL.out.c0
            refine hK.out _ _ (by (try dsimp only); first | exact ml | go_keep) (fun hHeld => ?_)
            clear hK K
            try simp only [Act.put, List.getElem_toArray, List.getElem_cons_succ, List.getElem_cons_zero, List.setIfInBounds_toArray, List.set_cons_zero, List.set_cons_succ]
            refine wpAnyH_done (by kernel_rfl) ?_ _
            go_upto_region 20 with fail
            obtain ⟨k0, k1, k2, k3⟩ := FL.out
            have ex : IntKind.i64.wrap (nx + 1) = nx + 1 := IntWalk.i64_in _ (by omega)
            go_wp2_with fail
            go_ret
            exact ⟨rfl, .slice (some ⟨g4, 0, none⟩) (((l.eraseIdx k)).length + 1) c4, (by first | exact FL.out.set0 _ | (rw [if_pos rfl]; exact FL.out.set0 _)), by (have q := (FZ.out.base (show B ≤ eb by omega)).other (p := ⟨lb, 0, none⟩) (fun e => by have e2 := Option.some.inj e; simp at e2; omega) (.int .i64 (nx + 1))); first | (rw [HF.out]; exact q) | (rw [if_pos rfl, HF.out]; exact q), (fun e => by have e2 := Option.some.inj e; simp at e2; omega), grown_trans FG.out (grown_set1 _ lb _ _)⟩
      · rw [if_neg (by omega)] at hK
        subst hK
        have HF : Hid (freeL l ++ [(⟨nx, f, t, sh, ca, 0, 0⟩ : Pe)] = l ++ [(⟨nx, f, t, sh, ca, 0, 0⟩ : Pe)]) := by unfold freeL; rw [if_neg (by omega)]; exact rfl
        have b60 : decide ((60 : Int) ≤ (l.length : Int)) = false := decide_eq_false (by omega)
        clear km
        go_upto_region 19 with fail
        obtain ⟨wq, hwq⟩ : ∃ wq, wq = wr := ⟨_, rfl⟩
        subst hwq
        have F0 : Hid (HAt wq.drew w.heap.size h) := F0.out.below (Below.refl _ _).drew F0.out.lt
        have FL : Hid (LW wq.drew lb nx (.slice (some ⟨g, 0, none⟩) l.length cap)) := FL.out.below (Below.refl _ _).drew FL.out.lt
        have FO : Hid (Ow wq.drew B g l.length cap l) := FO.out.below (Below.refl _ _).drew FO.out.lt
        have FG : Hid (w.grownBy wq.drew (some lb)) := gr_drew FG.out
        have ml := FL.out.c0
        refine wp_region_held_drew (S := (fun w'' => w''.cell? ⟨lb, 0, none⟩ = some (.int .i64 nx))) (by kernel_rfl) (by (try dsimp only); first | exact ml | go_keep) (fun hHeld => ?_)
        obtain ⟨v_24, hw1⟩ : ∃ v_24, v_24 = wq.drew := ⟨_, rfl⟩
        have F0 : Hid (HAt v_24 w.heap.size h) := by rw [hw1]; exact F0.out
        have FL : Hid (LW v_24 lb nx (.slice (some ⟨g, 0, none⟩) l.length cap)) := by rw [hw1]; exact FL.out
        have FO : Hid (Ow v_24 B g l.length cap l) := by rw [hw1]; exact FO.out
        have FG : Hid (w.grownBy v_24 (some lb)) := by rw [hw1]; exact FG.out
        rw [← hw1] at hHeld ⊢
        clear hw1
        have ml := FL.out.c0
        refine tkz 0 rfl ?_
        refine tkz 2 rfl ?_
        refine tkz 4 rfl ?_
        refine tkz 5 rfl ?_
        refine tkz 6 rfl ?_
        refine tkz 7 rfl ?_
        refine tkz 8 rfl ?_
        refine tkz 9 rfl ?_
        refine tkz 10 rfl ?_
        refine tkz 11 rfl ?_
        refine tkz 12 rfl ?_
        refine wpAnyH_ready (rs := [1, 13]) (by kernel_rfl) (by simp) ?_
        refine (AllReadyH.cons rfl (fun K hK => ?_) (AllReadyH.cons rfl (fun K hK => ?_) AllReadyH.nil))
        · refine step_of rfl ?_
          go_simp
          obtain ⟨eb, heb⟩ : ∃ eb, eb = v_24.heap.size := ⟨_, rfl⟩
          have leb0 := F0.out.lt
          have leb1 := FL.out.lt
          have leb2 := FG.out.size
          rw [← heb] at leb0 leb1 leb2
          first | (have ly_ := FN.out.lt; rw [← heb] at ly_) | skip
          obtain ⟨v_25, hw2⟩ : ∃ v_25, v_25 = v_24.alloc (.cells #[] 42) := ⟨_, rfl⟩
          have F0 : Hid (HAt v_25 w.heap.size h) := by rw [hw2]; exact F0.out.alloc _
          have FL : Hid (LW v_25 lb nx (.slice (some ⟨g, 0, none⟩) l.length cap)) := by rw [hw2]; exact FL.out.alloc _
          have FO : Hid (Ow v_25 B g l.length cap l) := by rw [hw2]; exact FO.out.alloc _
          have FG : Hid (w.grownBy v_25 (some lb)) := by rw [hw2]; exact grown_trans FG.out (grown_new _ _ _)
          have FE : Hid (Own v_25 eb (.slice (some ⟨eb, 0, none⟩) 0 0) []) := by rw [hw2, heb]; exact own_empty v_24 _ (Nat.le_refl _)
          rw [← hw2, ← heb]
          clear hw2 heb
          have ml := FL.out.c0
          refine hK.out _ _ (by (try dsimp only); first | exact ml | go_keep) (fun hHeld => ?_)
          clear hK K
          try simp only [Act.put, List.getElem_toArray, List.getElem_cons_succ, List.getElem_cons_zero, List.setIfInBounds_toArray, List.set_cons_zero, List.set_cons_succ]
          refine wpAnyH_ready (rs := [3, 13]) (by kernel_rfl) (by simp) ?_
          refine (AllReadyH.cons rfl (fun K hK => ?_) (AllReadyH.cons rfl (fun K hK => ?_) AllReadyH.nil))
          · refine step_of rfl ?_
            refine wp_append_pe eb eb 0 0 [] l rfl FE.out ⟨g, 0, none⟩ cap rfl (fun hpos => ⟨g, 0, rfl, fun i p hp => by rw [Nat.zero_add]; exact FO.out.p7 hp⟩) (by simp <;> omega) (Nat.le_of_lt ((FE.out.lt eb rfl).2)) ?_
            intro g3 c3 v_26 ho hg
            rw [List.nil_append] at ho
            have F0 : Hid (HAt v_26 w.heap.size h) := F0.out.grown hg (fun e => by have e2 := Option.some.inj e; omega)
            have FL : Hid (LW v_26 lb nx (.slice (some ⟨g, 0, none⟩) l.length cap)) := FL.out.grown hg (fun e => by have e2 := Option.some.inj e; omega)
            have FO : Hid (Ow v_26 B g l.length cap l) := FO.out.kept hg (fun e => by have e2 := Option.some.inj e; omega)
            have FG : Hid (w.grownBy v_26 (some lb)) := gr_new FG.out hg (by omega)
            have FA : Hid (Own v_26 eb (.slice (some ⟨g3, 0, none⟩) (l).length c3) (l)) := ho
            have lg3 : eb ≤ g3 := (FA.out.lt g3 rfl).1
            rw [List.nil_append]
            clear ho hg
            have ml := FL.out.c0
            refine hK.out _ _ (by (try dsimp only); first | exact ml | go_keep) (fun hHeld => ?_)
            clear hK K
            try simp only [Act.put, List.getElem_toArray, List.getElem_cons_succ, List.getElem_cons_zero, List.setIfInBounds_toArray, List.set_cons_zero, List.set_cons_succ]
            refine wpAnyH_ready (rs := [13]) (by kernel_rfl) (by simp) ?_
            refine (AllReadyH.cons rfl (fun K hK => ?_) AllReadyH.nil)
            refine step_of rfl ?_
            go_simp
            obtain ⟨nb, hnb⟩ : ∃ nb, nb = v_26.heap.size := ⟨_, rfl⟩
            have lnb0 := F0.out.lt
            have lnb1 := FL.out.lt
            have lnb2 := FG.out.size
            rw [← hnb] at lnb0 lnb1 lnb2
            first | (have lx_ := (FE.out.lt eb rfl).2; rw [← hnb] at lx_) | skip
            obtain ⟨v_27, hw2⟩ : ∃ v_27, v_27 = v_26.alloc (.cells #[.int .i64 nx, .int .i64 f, .int .i64 t, .int .i64 sh, .int .i64 ca, .int .i64 0, .int .i64 0] 42) := ⟨_, rfl⟩
            have F0 : Hid (HAt v_27 w.heap.size h) := by rw [hw2]; exact F0.out.alloc _
            have FL : Hid (LW v_27 lb nx (.slice (some ⟨g, 0, none⟩) l.length cap)) := by rw [hw2]; exact FL.out.alloc _
            have FO : Hid (Ow v_27 B g l.length cap l) := by rw [hw2]; exact FO.out.alloc _
            have FG : Hid (w.grownBy v_27 (some lb)) := by rw [hw2]; exact grown_trans FG.out (grown_new _ _ _)
            have FA : Hid (Own v_27 eb (.slice (some ⟨g3, 0, none⟩) (l).length c3) (l)) := by rw [hw2]; exact FA.out.alloc _
            have FN : Hid (P7 v_27 nb 0 (⟨nx, f, t, sh, ca, 0, 0⟩ : Pe)) := by rw [hw2]; exact P7.at_ v_26 (⟨nx, f, t, sh, ca, 0, 0⟩ : Pe) _ _ hnb
            rw [← hw2, ← hnb]
            clear hw2 hnb
            have ml := FL.out.c0
            refine hK.out _ _ (by (try dsimp only); first | exact ml | go_keep) (fun hHeld => ?_)
            clear hK K
            try simp only [Act.put, List.getElem_toArray, List.getElem_cons_succ, List.getElem_cons_zero, List.setIfInBounds_toArray, List.set_cons_zero, List.set_cons_succ]
            refine wpAnyH_ready (rs := [14]) (by kernel_rfl) (by simp) ?_
            refine (AllReadyH.cons rfl (fun K hK => ?_) AllReadyH.nil)
            refine step_of rfl ?_
            refine wp_append_pe eb g3 (l).length c3 l [(⟨nx, f, t, sh, ca, 0, 0⟩ : Pe)] rfl FA.out ⟨nb, 0, none⟩ 1 rfl (fun _ => ⟨nb, 0, rfl, fun i p hp => by cases i with | zero => (simp at hp; subst hp; exact FN.out) | succ i => simp at hp⟩) (by simp <;> omega) (by have := (FA.out.lt g3 rfl).2; omega) ?_
            intro g4 c4 v_28 ho hg
            rw [show (l ++ [(⟨nx, f, t, sh, ca, 0, 0⟩ : Pe)]).length = (l).length + 1 from by rw [List.length_append]; rfl] at ho ⊢
            have F0 : Hid (HAt v_28 w.heap.size h) := F0.out.grown hg (fun e => by have e2 := Option.some.inj e; omega)
            have FL : Hid (LW v_28 lb nx (.slice (some ⟨g, 0, none⟩) l.length cap)) := FL.out.grown hg (fun e => by have e2 := Option.some.inj e; omega)
            have FO : Hid (Ow v_28 B g l.length cap l) := FO.out.kept hg (fun e => by have e2 := Option.some.inj e; omega)
            have FG : Hid (w.grownBy v_28 (some lb)) := gr_new FG.out hg (by omega)
            have FZ : Hid (Own v_28 eb (.slice (some ⟨g4, 0, none⟩) ((l).length + 1) c4) (l ++ [(⟨nx, f, t, sh, ca, 0, 0⟩ : Pe)])) := ho
            have lg4 : eb ≤ g4 := (FZ.out.lt g4 rfl).1
            clear ho hg
            have ml := FL.out.c0
            refine hK.out _ _ (by (try dsimp only); first | exact ml | go_keep) (fun hHeld => ?_)
            clear hK K
            try simp only [Act.put, List.getElem_toArray, List.getElem_cons_succ, List.getElem_cons_zero, List.setIfInBounds_toArray, List.set_cons_zero, List.set_cons_succ]
            refine tkz 15 rfl ?_
            refine tkz 16 rfl ?_
            refine wpAnyH_ready (rs := [17]) (by kernel_rfl) (by simp) ?_
            refine (AllReadyH.cons rfl (fun K hK => ?_) AllReadyH.nil)
            obtain ⟨k0, k1, k2, k3⟩ := FL.out
            go_simp
            obtain ⟨v_29, hw2⟩ : ∃ v_29, v_29 = v_28.setCell ⟨lb, 1, none⟩ (.slice (some ⟨g4, 0, none⟩) ((l).length + 1) c4) := ⟨_, rfl⟩
            change K _ (v_28.setCell ⟨lb, 1, none⟩ (.slice (some ⟨g4, 0, none⟩) ((l).length + 1) c4))
            rw [← hw2]
            clear k0 k1 k2 k3
            have FL : Hid (LW v_29 lb nx (.slice (some ⟨g4, 0, none⟩) ((l).length + 1) c4)) := by rw [hw2]; exact FL.out.set1 _
            have FG : Hid (w.grownBy v_29 (some lb)) := by rw [hw2]; exact grown_trans FG.out (grown_set1 _ lb _ _)
            have FZ : Hid (Own v_29 eb (.slice (some ⟨g4, 0, none⟩) ((l).length + 1) c4) (l ++ [(⟨nx, f, t, sh, ca, 0, 0⟩ : Pe)])) := by rw [hw2]; exact FZ.out.other (fun e => by have e2 := Option.some.inj e; simp at e2; omega) _
            clear hw2
            have ml := FL.out.c0
            refine hK.out _ _ (by (try dsimp only); first | exact ml | go_keep) (fun hHeld => ?_)
            clear hK K
            try simp only [Act.put, List.getElem_toArray, List.getElem_cons_succ, List.getElem_cons_zero, List.setIfInBounds_toArray, List.set_cons_zero, List.set_cons_succ]
            refine wpAnyH_done (by kernel_rfl) ?_ _
            go_upto_region 20 with fail
            obtain ⟨k0, k1, k2, k3⟩ := FL.out
            have ex : IntKind.i64.wrap (nx + 1) = nx + 1 := IntWalk.i64_in _ (by omega)
            go_wp2_with fail
            go_ret
            exact ⟨rfl, .slice (some ⟨g4, 0, none⟩) ((l).length + 1) c4, (by first | exact FL.out.set0 _ | (rw [if_pos rfl]; exact FL.out.set0 _)), by (have q := (FZ.out.base (show B ≤ eb by omega)).other (p := ⟨lb, 0, none⟩) (fun e => by have e2 := Option.some.inj e; simp at e2; omega) (.int .i64 (nx + 1))); first | (rw [HF.out]; exact q) | (rw [if_pos rfl, HF.out]; exact q), (fun e => by have e2 := Option.some.inj e; simp at e2; omega), grown_trans FG.out (grown_set1 _ lb _ _)⟩
          · refine step_of rfl ?_
            go_simp
            obtain ⟨nb, hnb⟩ : ∃ nb, nb = v_25.heap.size := ⟨_, rfl⟩
            have lnb0 := F0.out.lt
            have lnb1 := FL.out.lt
            have lnb2 := FG.out.size
            rw [← hnb] at lnb0 lnb1 lnb2
            first | (have lx_ := (FE.out.lt eb rfl).2; rw [← hnb] at lx_) | skip
            obtain ⟨v_30, hw2⟩ : ∃ v_30, v_30 = v_25.alloc (.cells #[.int .i64 nx, .int .i64 f, .int .i64 t, .int .i64 sh, .int .i64 ca, .int .i64 0, .int .i64 0] 42) := ⟨_, rfl⟩
            have F0 : Hid (HAt v_30 w.heap.size h) := by rw [hw2]; exact F0.out.alloc _
            have FL : Hid (LW v_30 lb nx (.slice (some ⟨g, 0, none⟩) l.length cap)) := by rw [hw2]; exact FL.out.alloc _
            have FO : Hid (Ow v_30 B g l.length cap l) := by rw [hw2]; exact FO.out.alloc _
            have FG : Hid (w.grownBy v_30 (some lb)) := by rw [hw2]; exact grown_trans FG.out (grown_new _ _ _)
            have FE : Hid (Own v_30 eb (.slice (some ⟨eb, 0, none⟩) 0 0) []) := by rw [hw2]; exact FE.out.alloc _
            have FN : Hid (P7 v_30 nb 0 (⟨nx, f, t, sh, ca, 0, 0⟩ : Pe)) := by rw [hw2]; exact P7.at_ v_25 (⟨nx, f, t, sh, ca, 0, 0⟩ : Pe) _ _ hnb
            rw [← hw2, ← hnb]
            clear hw2 hnb
            have ml := FL.out.c0
            refine hK.out _ _ (by (try dsimp only); first | exact ml | go_keep) (fun hHeld => ?_)
            clear hK K
            try simp only [Act.put, List.getElem_toArray, List.getElem_cons_succ, List.getElem_cons_zero, List.setIfInBounds_toArray, List.set_cons_zero, List.set_cons_succ]
            refine wpAnyH_ready (rs := [3]) (by kernel_rfl) (by simp) ?_
            refine (AllReadyH.cons rfl (fun K hK => ?_) AllReadyH.nil)
            refine step_of rfl ?_
            refine wp_append_pe eb eb 0 0 [] l rfl FE.out ⟨g, 0, none⟩ cap rfl (fun hpos => ⟨g, 0, rfl, fun i p hp => by rw [Nat.zero_add]; exact FO.out.p7 hp⟩) (by simp <;> omega) (Nat.le_of_lt ((FE.out.lt eb rfl).2)) ?_
            intro g3 c3 v_31 ho hg
            rw [List.nil_append] at ho
            have F0 : Hid (HAt v_31 w.heap.size h) := F0.out.grown hg (fun e => by have e2 := Option.some.inj e; omega)
            have FL : Hid (LW v_31 lb nx (.slice (some ⟨g, 0, none⟩) l.length cap)) := FL.out.grown hg (fun e => by have e2 := Option.some.inj e; omega)
            have FO : Hid (Ow v_31 B g l.length cap l) := FO.out.kept hg (fun e => by have e2 := Option.some.inj e; omega)
            have FG : Hid (w.grownBy v_31 (some lb)) := gr_new FG.out hg (by omega)
            have FN : Hid (P7 v_31 nb 0 (⟨nx, f, t, sh, ca, 0, 0⟩ : Pe)) := FN.out.grew hg (fun e => by have e2 := Option.some.inj e; omega)
            have FA : Hid (Own v_31 eb (.slice (some ⟨g3, 0, none⟩) (l).length c3) (l)) := ho
            have lg3 : eb ≤ g3 := (FA.out.lt g3 rfl).1
            rw [List.nil_append]
            clear ho hg
            have ml := FL.out.c0
            refine hK.out _ _ (by (try dsimp only); first | exact ml | go_keep) (fun hHeld => ?_)
            clear hK K
            try simp only [Act.put, List.getElem_toArray, List.getElem_cons_succ, List.getElem_cons_zero, List.setIfInBounds_toArray, List.set_cons_zero, List.set_cons_succ]
            refine wpAnyH_ready (rs := [14]) (by kernel_rfl) (by simp) ?_
            refine (AllReadyH.cons rfl (fun K hK => ?_) AllReadyH.nil)
            refine step_of rfl ?_
            refine wp_append_pe eb g3 (l).length c3 l [(⟨nx, f, t, sh, ca, 0, 0⟩ : Pe)] rfl FA.out ⟨nb, 0, none⟩ 1 rfl (fun _ => ⟨nb, 0, rfl, fun i p hp => by cases i with | zero => (simp at hp; subst hp; exact FN.out) | succ i => simp at hp⟩) (by simp <;> omega) (by have := (FA.out.lt g3 rfl).2; omega) ?_
            intro g4 c4 v_32 ho hg
            rw [show (l ++ [(⟨nx, f, t, sh, ca, 0, 0⟩ : Pe)]).length = (l).length + 1 from by rw [List.length_append]; rfl] at ho ⊢
            have F0 : Hid (HAt v_32 w.heap.size h) := F0.out.grown hg (fun e => by have e2 := Option.some.inj e; omega)
            have FL : Hid (LW v_32 lb nx (.slice (some ⟨g, 0, none⟩) l.length cap)) := FL.out.grown hg (fun e => by have e2 := Option.some.inj e; omega)
            have FO : Hid (Ow v_32 B g l.length cap l) := FO.out.kept hg (fun e => by have e2 := Option.some.inj e; omega)
            have FG : Hid (w.grownBy v_32 (some lb)) := gr_new FG.out hg (by omega)
            have FZ : Hid (Own v_32 eb (.slice (some ⟨g4, 0, none⟩) ((l).length + 1) c4) (l ++ [(⟨nx, f, t, sh, ca, 0, 0⟩ : Pe)])) := ho
            have lg4 : eb ≤ g4 := (FZ.out.lt g4 rfl).1
            clear ho hg
            have ml := FL.out.c0
            refine hK.out _ _ (by (try dsimp only); first | exact ml | go_keep) (fun hHeld => ?_)
            clear hK K
            try simp only [Act.put, List.getElem_toArray, List.getElem_cons_succ, List.getElem_cons_zero, List.setIfInBounds_toArray, List.set_cons_zero, List.set_cons_succ]
            refine tkz 15 rfl ?_
            refine tkz 16 rfl ?_
            refine wpAnyH_ready (rs := [17]) (by kernel_rfl) (by simp) ?_
            refine (AllReadyH.cons rfl (fun K hK => ?_) AllReadyH.nil)
            obtain ⟨k0, k1, k2, k3⟩ := FL.out
            go_simp
            obtain ⟨v_33, hw2⟩ : ∃ v_33, v_33 = v_32.setCell ⟨lb, 1, none⟩ (.slice (some ⟨g4, 0, none⟩) ((l).length + 1) c4) := ⟨_, rfl⟩
            change K _ (v_32.setCell ⟨lb, 1, none⟩ (.slice (some ⟨g4, 0, none⟩) ((l).length + 1) c4))
            rw [← hw2]
            clear k0 k1 k2 k3
            have FL : Hid (LW v_33 lb nx (.slice (some ⟨g4, 0, none⟩) ((l).length + 1) c4)) := by rw [hw2]; exact FL.out.set1 _
            have FG : Hid (w.grownBy v_33 (some lb)) := by rw [hw2]; exact grown_trans FG.out (grown_set1 _ lb _ _)
            have FZ : Hid (Own v_33 eb (.slice (some ⟨g4, 0, none⟩) ((l).length + 1) c4) (l ++ [(⟨nx, f, t, sh, ca, 0, 0⟩ : Pe)])) := by rw [hw2]; exact FZ.out.other (fun e => by have e2 := Option.some.inj e; simp at e2; omega) _
            clear hw2
            have ml := FL.out.c0
            refine hK.out _ _ (by (try dsimp only); first | exact ml | go_keep) (fun hHeld => ?_)
            clear hK K
            try simp only [Act.put, List.getElem_toArray, List.getElem_cons_succ, List.getElem_cons_zero, List.setIfInBounds_toArray, List.set_cons_zero, List.set_cons_succ]
            refine wpAnyH_done (by kernel_rfl) ?_ _
            go_upto_region 20 with fail
            obtain ⟨k0, k1, k2, k3⟩ := FL.out
            have ex : IntKind.i64.wrap (nx + 1) = nx + 1 := IntWalk.i64_in _ (by omega)
            go_wp2_with fail
            go_ret
            exact ⟨rfl, .slice (some ⟨g4, 0, none⟩) ((l).length + 1) c4, (by first | exact FL.out.set0 _ | (rw [if_pos rfl]; exact FL.out.set0 _)), by (have q := (FZ.out.base (show B ≤ eb by omega)).other (p := ⟨lb, 0, none⟩) (fun e => by have e2 := Option.some.inj e; simp at e2; omega) (.int .i64 (nx + 1))); first | (rw [HF.out]; exact q) | (rw [if_pos rfl, HF.out]; exact q), (fun e => by have e2 := Option.some.inj e; simp at e2; omega), grown_trans FG.out (grown_set1 _ lb _ _)⟩
        · refine step_of rfl ?_
          go_simp
          obtain ⟨nb, hnb⟩ : ∃ nb, nb = v_24.heap.size := ⟨_, rfl⟩
          have lnb0 := F0.out.lt
          have lnb1 := FL.out.lt
          have lnb2 := FG.out.size
          rw [← hnb] at lnb0 lnb1 lnb2
          first | (have lx_ := (FE.out.lt eb rfl).2; rw [← hnb] at lx_) | skip
          obtain ⟨v_34, hw2⟩ : ∃ v_34, v_34 = v_24.alloc (.cells #[.int .i64 nx, .int .i64 f, .int .i64 t, .int .i64 sh, .int .i64 ca, .int .i64 0, .int .i64 0] 42) := ⟨_, rfl⟩
          have F0 : Hid (HAt v_34 w.heap.size h) := by rw [hw2]; exact F0.out.alloc _
          have FL : Hid (LW v_34 lb nx (.slice (some ⟨g, 0, none⟩) l.length cap)) := by rw [hw2]; exact FL.out.alloc _
          have FO : Hid (Ow v_34 B g l.length cap l) := by rw [hw2]; exact FO.out.alloc _
          have FG : Hid (w.grownBy v_34 (some lb)) := by rw [hw2]; exact grown_trans FG.out (grown_new _ _ _)
          have FN : Hid (P7 v_34 nb 0 (⟨nx, f, t, sh, ca, 0, 0⟩ : Pe)) := by rw [hw2]; exact P7.at_ v_24 (⟨nx, f, t, sh, ca, 0, 0⟩ : Pe) _ _ hnb
          rw [← hw2, ← hnb]
          clear hw2 hnb
          have ml := FL.out.c0
          refine hK.out _ _ (by (try dsimp only); first | exact ml | go_keep) (fun hHeld => ?_)
          clear hK K
          try simp only [Act.put, List.getElem_toArray, List.getElem_cons_succ, List.getElem_cons_zero, List.setIfInBounds_toArray, List.set_cons_zero, List.set_cons_succ]
          refine wpAnyH_ready (rs := [1]) (by kernel_rfl) (by simp) ?_
          refine (AllReadyH.cons rfl (fun K hK => ?_) AllReadyH.nil)
          refine step_of rfl ?_
          go_simp
          obtain ⟨eb, heb⟩ : ∃ eb, eb = v_34.heap.size := ⟨_, rfl⟩
          have leb0 := F0.out.lt
          have leb1 := FL.out.lt
          have leb2 := FG.out.size
          rw [← heb] at leb0 leb1 leb2
          first | (have ly_ := FN.out.lt; rw [← heb] at ly_) | skip
          obtain ⟨v_35, hw2⟩ : ∃ v_35, v_35 = v_34.alloc (.cells #[] 42) := ⟨_, rfl⟩
          have F0 : Hid (HAt v_35 w.heap.size h) := by rw [hw2]; exact F0.out.alloc _
          have FL : Hid (LW v_35 lb nx (.slice (some ⟨g, 0, none⟩) l.length cap)) := by rw [hw2]; exact FL.out.alloc _
          have FO : Hid (Ow v_35 B g l.length cap l) := by rw [hw2]; exact FO.out.alloc _
          have FG : Hid (w.grownBy v_35 (some lb)) := by rw [hw2]; exact grown_trans FG.out (grown_new _ _ _)
          have FN : Hid (P7 v_35 nb 0 (⟨nx, f, t, sh, ca, 0, 0⟩ : Pe)) := by rw [hw2]; exact FN.out.alloc _
          have FE : Hid (Own v_35 eb (.slice (some ⟨eb, 0, none⟩) 0 0) []) := by rw [hw2, heb]; exact own_empty v_34 _ (Nat.le_refl _)
          rw [← hw2, ← heb]
          clear hw2 heb
          have ml := FL.out.c0
          refine hK.out _ _ (by (try dsimp only); first | exact ml | go_keep) (fun hHeld => ?_)
          clear hK K
          try simp only [Act.put, List.getElem_toArray, List.getElem_cons_succ, List.getElem_cons_zero, List.setIfInBounds_toArray, List.set_cons_zero, List.set_cons_succ]
          refine wpAnyH_ready (rs := [3]) (by kernel_rfl) (by simp) ?_
          refine (AllReadyH.cons rfl (fun K hK => ?_) AllReadyH.nil)
          refine step_of rfl ?_
          refine wp_append_pe eb eb 0 0 [] l rfl FE.out ⟨g, 0, none⟩ cap rfl (fun hpos => ⟨g, 0, rfl, fun i p hp => by rw [Nat.zero_add]; exact FO.out.p7 hp⟩) (by simp <;> omega) (Nat.le_of_lt ((FE.out.lt eb rfl).2)) ?_
          intro g3 c3 v_36 ho hg
          rw [List.nil_append] at ho
          have F0 : Hid (HAt v_36 w.heap.size h) := F0.out.grown hg (fun e => by have e2 := Option.some.inj e; omega)
          have FL : Hid (LW v_36 lb nx (.slice (some ⟨g, 0, none⟩) l.length cap)) := FL.out.grown hg (fun e => by have e2 := Option.some.inj e; omega)
          have FO : Hid (Ow v_36 B g l.length cap l) := FO.out.kept hg (fun e => by have e2 := Option.some.inj e; omega)
          have FG : Hid (w.grownBy v_36 (some lb)) := gr_new FG.out hg (by omega)
          have FN : Hid (P7 v_36 nb 0 (⟨nx, f, t, sh, ca, 0, 0⟩ : Pe)) := FN.out.grew hg (fun e => by have e2 := Option.some.inj e; omega)
          have FA : Hid (Own v_36 eb (.slice (some ⟨g3, 0, none⟩) (l).length c3) (l)) := ho
          have lg3 : eb ≤ g3 := (FA.out.lt g3 rfl).1
          rw [List.nil_append]
          clear ho hg
          have ml := FL.out.c0
          refine hK.out _ _ (by (try dsimp only); first | exact ml | go_keep) (fun hHeld => ?_)
          clear hK K
          try simp only [Act.put, List.getElem_toArray, List.getElem_cons_succ, List.getElem_cons_zero, List.setIfInBounds_toArray, List.set_cons_zero, List.set_cons_succ]
          refine wpAnyH_ready (rs := [14]) (by kernel_rfl) (by simp) ?_
          refine (AllReadyH.cons rfl (fun K hK => ?_) AllReadyH.nil)
          refine step_of rfl ?_
          refine wp_append_pe eb g3 (l).length c3 l [(⟨nx, f, t, sh, ca, 0, 0⟩ : Pe)] rfl FA.out ⟨nb, 0, none⟩ 1 rfl (fun _ => ⟨nb, 0, rfl, fun i p hp => by cases i with | zero => (simp at hp; subst hp; exact FN.out) | succ i => simp at hp⟩) (by simp <;> omega) (by have := (FA.out.lt g3 rfl).2; omega) ?_
          intro g4 c4 v_37 ho hg
          rw [show (l ++ [(⟨nx, f, t, sh, ca, 0, 0⟩ : Pe)]).length = (l).length + 1 from by rw [List.length_append]; rfl] at ho ⊢
          have F0 : Hid (HAt v_37 w.heap.size h) := F0.out.grown hg (fun e => by have e2 := Option.some.inj e; omega)
          have FL : Hid (LW v_37 lb nx (.slice (some ⟨g, 0, none⟩) l.length cap)) := FL.out.grown hg (fun e => by have e2 := Option.some.inj e; omega)
          have FO : Hid (Ow v_37 B g l.length cap l) := FO.out.kept hg (fun e => by have e2 := Option.some.inj e; omega)
          have FG : Hid (w.grownBy v_37 (some lb)) := gr_new FG.out hg (by omega)
          have FZ : Hid (Own v_37 eb (.slice (some ⟨g4, 0, none⟩) ((l).length + 1) c4) (l ++ [(⟨nx, f, t, sh, ca, 0, 0⟩ : Pe)])) := ho
          have lg4 : eb ≤ g4 := (FZ.out.lt g4 rfl).1
          clear ho hg
          have ml := FL.out.c0
          refine hK.out _ _ (by (try dsimp only); first | exact ml | go_keep) (fun hHeld => ?_)
          clear hK K
          try simp only [Act.put, List.getElem_toArray, List.getElem_cons_succ, List.getElem_cons_zero, List.setIfInBounds_toArray, List.set_cons_zero, List.set_cons_succ]
          refine tkz 15 rfl ?_
          refine tkz 16 rfl ?_
          refine wpAnyH_ready (rs := [17]) (by kernel_rfl) (by simp) ?_
          refine (AllReadyH.cons rfl (fun K hK => ?_) AllReadyH.nil)
          obtain ⟨k0, k1, k2, k3⟩ := FL.out
          go_simp
          obtain ⟨v_38, hw2⟩ : ∃ v_38, v_38 = v_37.setCell ⟨lb, 1, none⟩ (.slice (some ⟨g4, 0, none⟩) ((l).length + 1) c4) := ⟨_, rfl⟩
          change K _ (v_37.setCell ⟨lb, 1, none⟩ (.slice (some ⟨g4, 0, none⟩) ((l).length + 1) c4))
          rw [← hw2]
          clear k0 k1 k2 k3
          have FL : Hid (LW v_38 lb nx (.slice (some ⟨g4, 0, none⟩) ((l).length + 1) c4)) := by rw [hw2]; exact FL.out.set1 _
          have FG : Hid (w.grownBy v_38 (some lb)) := by rw [hw2]; exact grown_trans FG.out (grown_set1 _ lb _ _)
          have FZ : Hid (Own v_38 eb (.slice (some ⟨g4, 0, none⟩) ((l).length + 1) c4) (l ++ [(⟨nx, f, t, sh, ca, 0, 0⟩ : Pe)])) := by rw [hw2]; exact FZ.out.other (fun e => by have e2 := Option.some.inj e; simp at e2; omega) _
          clear hw2
          have ml := FL.out.c0
          refine hK.out _ _ (by (try dsimp only); first | exact ml | go_keep) (fun hHeld => ?_)
          clear hK K
          try simp only [Act.put, List.getElem_toArray, List.getElem_cons_succ, List.getElem_cons_zero, List.setIfInBounds_toArray, List.set_cons_zero, List.set_cons_succ]
          refine wpAnyH_done (by kernel_rfl) ?_ _
          go_upto_region 20 with fail
          obtain ⟨k0, k1, k2, k3⟩ := FL.out
          have ex : IntKind.i64.wrap (nx + 1) = nx + 1 := IntWalk.i64_in _ (by omega)
          go_wp2_with fail
          go_ret
          exact ⟨rfl, .slice (some ⟨g4, 0, none⟩) ((l).length + 1) c4, (by first | exact FL.out.set0 _ | (rw [if_pos rfl]; exact FL.out.set0 _)), by (have q := (FZ.out.base (show B ≤ eb by omega)).other (p := ⟨lb, 0, none⟩) (fun e => by have e2 := Option.some.inj e; simp at e2; omega) (.int .i64 (nx + 1))); first | (rw [HF.out]; exact q) | (rw [if_pos rfl, HF.out]; exact q), (fun e => by have e2 := Option.some.inj e; simp at e2; omega), grown_trans FG.out (grown_set1 _ lb _ _)⟩
set_option maxRecDepth 20000 in
set_option maxHeartbeats 16000000 in
theorem l7Add_nil (h : Hs) (lb B : Nat) (nx f t sh ca : Int) (n1 : -1000000000000000 ≤ nx) (n2 : nx ≤ 1000000000000000) (w : World) (hB : B ≤ w.heap.size) (hL : LW w lb nx (.slice none 0 0)) :
    Calls Try.prog 59 #[.agg #[.int .i64 h.fl, .int .i64 h.gp, .int .i64 h.ln, .int .i64 h.rf, .int .i64 h.sp, .int .i64 h.pu, .int .i64 h.br, .int .i64 h.dr, .int .i64 h.lv, .int .i64 h.dO, .int .i64 h.ld, .int .i64 h.qu], .pointer (some ⟨lb, 0, none⟩), .int .i64 f, .int .i64 t, .int .i64 sh, .int .i64 ca] w (addPost h lb B nx ([] : List Pe) f t sh ca w) := by
  have llb := hL.lt
  skip
  unfold addPost
  obtain ⟨K, hK⟩ : ∃ K, Hs.addC h ⟨nx, ([] : List Pe)⟩ f t sh ca = K := ⟨_, rfl⟩
  rw [hK]
  unfold Hs.addC at hK
  dsimp only at hK
  by_cases hcall : Hs.call h f t = 0
  case neg =>
    rw [if_neg hcall] at hK
    subst hK
    rw [if_neg hcall, if_neg hcall]
    have hn : (Hs.call h f t != 0) = true := by simpa using hcall
    clear hcall
    go_enter Try.func59, Try.ntmps59
    go_upto_region 1 with fail
    obtain ⟨W0, hW0⟩ : ∃ W0, W0 = w.alloc (.cells #[.int .i64 h.fl, .int .i64 h.gp, .int .i64 h.ln, .int .i64 h.rf, .int .i64 h.sp, .int .i64 h.pu, .int .i64 h.br, .int .i64 h.dr, .int .i64 h.lv, .int .i64 h.dO, .int .i64 h.ld, .int .i64 h.qu] 25) := ⟨_, rfl⟩
    have F0 : Hid (HAt W0 w.heap.size h) := by rw [hW0]; exact HAt.at_ w h _ _ rfl
    have FL : Hid (LW W0 lb nx (.slice none 0 0)) := by rw [hW0]; exact hL.alloc _
    have FG : Hid (w.grownBy W0 (some lb)) := by rw [hW0]; exact grown_new _ _ _
    rw [← hW0]
    clear hW0
    obtain ⟨x0_0, x0_1, x0_2, x0_3, x0_4, x0_5, x0_6, x0_7, x0_8, x0_9, x0_10, x0_11⟩ := F0.out
    obtain ⟨v0, v1, v2, v3⟩ := FL.out
    go_upto_region 3 with (go_at_call 63; refine (specCallFault_any h f t _).mono ?_; rintro e w1 ⟨rfl, hb⟩; have F0 : Hid (HAt w1 w.heap.size h) := F0.out.below hb F0.out.lt; have FL : Hid (LW w1 lb nx (.slice none 0 0)) := FL.out.below hb FL.out.lt; have FG : Hid (w.grownBy w1 (some lb)) := gr_below FG.out hb; clear hb; obtain ⟨x0_0, x0_1, x0_2, x0_3, x0_4, x0_5, x0_6, x0_7, x0_8, x0_9, x0_10, x0_11⟩ := F0.out; obtain ⟨v0, v1, v2, v3⟩ := FL.out)
    go_wp2_with fail
    go_ret
    exact ⟨rfl, _, FL.out, own_nil _ _, (fun e => by cases e), FG.out⟩
  rw [if_pos hcall] at hK
  cases kc : carB sh ca
  · rw [kc, if_neg (by simp)] at hK
    subst hK
    rw [if_neg (by omega), if_neg (by omega)]
    go_enter Try.func59, Try.ntmps59
    go_upto_region 1 with fail
    obtain ⟨W0, hW0⟩ : ∃ W0, W0 = w.alloc (.cells #[.int .i64 h.fl, .int .i64 h.gp, .int .i64 h.ln, .int .i64 h.rf, .int .i64 h.sp, .int .i64 h.pu, .int .i64 h.br, .int .i64 h.dr, .int .i64 h.lv, .int .i64 h.dO, .int .i64 h.ld, .int .i64 h.qu] 25) := ⟨_, rfl⟩
    have F0 : Hid (HAt W0 w.heap.size h) := by rw [hW0]; exact HAt.at_ w h _ _ rfl
    have FL : Hid (LW W0 lb nx (.slice none 0 0)) := by rw [hW0]; exact hL.alloc _
    have FG : Hid (w.grownBy W0 (some lb)) := by rw [hW0]; exact grown_new _ _ _
    rw [← hW0]
    clear hW0
    obtain ⟨x0_0, x0_1, x0_2, x0_3, x0_4, x0_5, x0_6, x0_7, x0_8, x0_9, x0_10, x0_11⟩ := F0.out
    obtain ⟨v0, v1, v2, v3⟩ := FL.out
    go_upto_region 5 with (first | (go_at_call 63; refine (specCallFault_any h f t _).mono ?_; rw [hcall]; rintro e w1 ⟨rfl, hb⟩; have F0 : Hid (HAt w1 w.heap.size h) := F0.out.below hb F0.out.lt; have FL : Hid (LW w1 lb nx (.slice none 0 0)) := FL.out.below hb FL.out.lt; have FG : Hid (w.grownBy w1 (some lb)) := gr_below FG.out hb; clear hb; obtain ⟨x0_0, x0_1, x0_2, x0_3, x0_4, x0_5, x0_6, x0_7, x0_8, x0_9, x0_10, x0_11⟩ := F0.out; obtain ⟨v0, v1, v2, v3⟩ := FL.out) | (go_at_call 39; refine (l7Car_any _ _ _).mono ?_; rw [kc]; rintro e w' ⟨rfl, hw⟩; obtain rfl := hw.symm; clear hw))
    go_wp2_with fail
    go_ret
    exact ⟨rfl, _, FL.out, own_nil _ _, (fun e => by cases e), FG.out⟩
  rw [kc, if_pos rfl] at hK
  by_cases kq : h.qu ≤ (cnt 0 (-1) 0 ([] : List Pe) : Int)
  · rw [if_pos kq] at hK
    subst hK
    rw [if_neg (by omega), if_neg (by omega)]
    have bq : decide (h.qu ≤ (cnt 0 (-1) 0 ([] : List Pe) : Int)) = true := decide_eq_true kq
    clear kq
    go_enter Try.func59, Try.ntmps59
    go_upto_region 1 with fail
    obtain ⟨W0, hW0⟩ : ∃ W0, W0 = w.alloc (.cells #[.int .i64 h.fl, .int .i64 h.gp, .int .i64 h.ln, .int .i64 h.rf, .int .i64 h.sp, .int .i64 h.pu, .int .i64 h.br, .int .i64 h.dr, .int .i64 h.lv, .int .i64 h.dO, .int .i64 h.ld, .int .i64 h.qu] 25) := ⟨_, rfl⟩
    have F0 : Hid (HAt W0 w.heap.size h) := by rw [hW0]; exact HAt.at_ w h _ _ rfl
    have FL : Hid (LW W0 lb nx (.slice none 0 0)) := by rw [hW0]; exact hL.alloc _
    have FG : Hid (w.grownBy W0 (some lb)) := by rw [hW0]; exact grown_new _ _ _
    rw [← hW0]
    clear hW0
    obtain ⟨x0_0, x0_1, x0_2, x0_3, x0_4, x0_5, x0_6, x0_7, x0_8, x0_9, x0_10, x0_11⟩ := F0.out
    obtain ⟨v0, v1, v2, v3⟩ := FL.out
    go_upto_region 6 with (first | (go_at_call 63; refine (specCallFault_any h f t _).mono ?_; rw [hcall]; rintro e w1 ⟨rfl, hb⟩; have F0 : Hid (HAt w1 w.heap.size h) := F0.out.below hb F0.out.lt; have FL : Hid (LW w1 lb nx (.slice none 0 0)) := FL.out.below hb FL.out.lt; have FG : Hid (w.grownBy w1 (some lb)) := gr_below FG.out hb; clear hb; obtain ⟨x0_0, x0_1, x0_2, x0_3, x0_4, x0_5, x0_6, x0_7, x0_8, x0_9, x0_10, x0_11⟩ := F0.out; obtain ⟨v0, v1, v2, v3⟩ := FL.out) | (go_at_call 39; refine (l7Car_any _ _ _).mono ?_; rw [kc]; rintro e w' ⟨rfl, hw⟩; obtain rfl := hw.symm; clear hw))
    have F0 : Hid (HAt w1.drew w.heap.size h) := F0.out.below (Below.refl _ _).drew F0.out.lt
    have FL : Hid (LW w1.drew lb nx (.slice none 0 0)) := FL.out.below (Below.refl _ _).drew FL.out.lt
    have FG : Hid (w.grownBy w1.drew (some lb)) := gr_drew FG.out
    have mq := F0.out.c11
    refine wp_region_held_drew (S := (fun w'' => w''.cell? ⟨w.heap.size, 11, none⟩ = some (.int .i64 h.qu))) (by kernel_rfl) (by (try dsimp only); first | exact mq | go_keep) (fun hHeld => ?_)
    obtain ⟨v_39, hw1⟩ : ∃ v_39, v_39 = w1.drew := ⟨_, rfl⟩
    have F0 : Hid (HAt v_39 w.heap.size h) := by rw [hw1]; exact F0.out
    have FL : Hid (LW v_39 lb nx (.slice none 0 0)) := by rw [hw1]; exact FL.out
    have FG : Hid (w.grownBy v_39 (some lb)) := by rw [hw1]; exact FG.out
    rw [← hw1] at hHeld ⊢
    clear hw1
    have mq := F0.out.c11
    refine tkz 0 rfl ?_
    refine tkz 2 rfl ?_
    refine tkz 3 rfl ?_
    refine wpAnyH_ready (rs := [1]) (by kernel_rfl) (by simp) ?_
    refine (AllReadyH.cons rfl (fun K hK => ?_) AllReadyH.nil)
    go_simp
    refine (l7Count_any lb nx none 0 ([] : List Pe) 0 (-1) 0 (by simp) _ FL.out.lat (Or.inl rfl)).mono ?_
    rintro e v_40 ⟨rfl, hb⟩
    have F0 : Hid (HAt v_40 w.heap.size h) := F0.out.below hb F0.out.lt
    have FL : Hid (LW v_40 lb nx (.slice none 0 0)) := FL.out.below hb FL.out.lt
    have FG : Hid (w.grownBy v_40 (some lb)) := gr_below FG.out hb
    clear hb
    have mq := F0.out.c11
    try dsimp only
    refine hK.out _ _ (by (try dsimp only); first | exact mq | go_keep) (fun hHeld => ?_)
    clear hK K
    try simp only [Act.put, List.getElem_toArray, List.getElem_cons_succ, List.getElem_cons_zero, List.setIfInBounds_toArray, List.set_cons_zero, List.set_cons_succ]
    refine tkz 4 rfl ?_
    refine wpAnyH_done (by kernel_rfl) ?_ _
    go_upto_region 7 with fail
    obtain ⟨w2, hW_⟩ : ∃ w2, w2 = v_40 := ⟨_, rfl⟩
    have F0 : Hid (HAt w2 w.heap.size h) := by rw [hW_]; exact F0.out
    have FL : Hid (LW w2 lb nx (.slice none 0 0)) := by rw [hW_]; exact FL.out
    have FG : Hid (w.grownBy w2 (some lb)) := by rw [hW_]; exact FG.out
    rw [← hW_]
    clear hW_
    go_wp2_with fail
    go_ret
    exact ⟨rfl, _, FL.out, own_nil _ _, (fun e => by cases e), FG.out⟩
  rw [if_neg kq] at hK
  have bq : decide (h.qu ≤ (cnt 0 (-1) 0 ([] : List Pe) : Int)) = false := decide_eq_false kq
  clear kq
  go_enter Try.func59, Try.ntmps59
  go_upto_region 1 with fail
  obtain ⟨W0, hW0⟩ : ∃ W0, W0 = w.alloc (.cells #[.int .i64 h.fl, .int .i64 h.gp, .int .i64 h.ln, .int .i64 h.rf, .int .i64 h.sp, .int .i64 h.pu, .int .i64 h.br, .int .i64 h.dr, .int .i64 h.lv, .int .i64 h.dO, .int .i64 h.ld, .int .i64 h.qu] 25) := ⟨_, rfl⟩
  have F0 : Hid (HAt W0 w.heap.size h) := by rw [hW0]; exact HAt.at_ w h _ _ rfl
  have FL : Hid (LW W0 lb nx (.slice none 0 0)) := by rw [hW0]; exact hL.alloc _
  have FG : Hid (w.grownBy W0 (some lb)) := by rw [hW0]; exact grown_new _ _ _
  rw [← hW0]
  clear hW0
  obtain ⟨x0_0, x0_1, x0_2, x0_3, x0_4, x0_5, x0_6, x0_7, x0_8, x0_9, x0_10, x0_11⟩ := F0.out
  obtain ⟨v0, v1, v2, v3⟩ := FL.out
  go_upto_region 6 with (first | (go_at_call 63; refine (specCallFault_any h f t _).mono ?_; rw [hcall]; rintro e w1 ⟨rfl, hb⟩; have F0 : Hid (HAt w1 w.heap.size h) := F0.out.below hb F0.out.lt; have FL : Hid (LW w1 lb nx (.slice none 0 0)) := FL.out.below hb FL.out.lt; have FG : Hid (w.grownBy w1 (some lb)) := gr_below FG.out hb; clear hb; obtain ⟨x0_0, x0_1, x0_2, x0_3, x0_4, x0_5, x0_6, x0_7, x0_8, x0_9, x0_10, x0_11⟩ := F0.out; obtain ⟨v0, v1, v2, v3⟩ := FL.out) | (go_at_call 39; refine (l7Car_any _ _ _).mono ?_; rw [kc]; rintro e w' ⟨rfl, hw⟩; obtain rfl := hw.symm; clear hw))
  have F0 : Hid (HAt w1.drew w.heap.size h) := F0.out.below (Below.refl _ _).drew F0.out.lt
  have FL : Hid (LW w1.drew lb nx (.slice none 0 0)) := FL.out.below (Below.refl _ _).drew FL.out.lt
  have FG : Hid (w.grownBy w1.drew (some lb)) := gr_drew FG.out
  have mq := F0.out.c11
  refine wp_region_held_drew (S := (fun w'' => w''.cell? ⟨w.heap.size, 11, none⟩ = some (.int .i64 h.qu))) (by kernel_rfl) (by (try dsimp only); first | exact mq | go_keep) (fun hHeld => ?_)
  obtain ⟨v_41, hw1⟩ : ∃ v_41, v_41 = w1.drew := ⟨_, rfl⟩
  have F0 : Hid (HAt v_41 w.heap.size h) := by rw [hw1]; exact F0.out
  have FL : Hid (LW v_41 lb nx (.slice none 0 0)) := by rw [hw1]; exact FL.out
  have FG : Hid (w.grownBy v_41 (some lb)) := by rw [hw1]; exact FG.out
  rw [← hw1] at hHeld ⊢
  clear hw1
  have mq := F0.out.c11
  refine tkz 0 rfl ?_
  refine tkz 2 rfl ?_
  refine tkz 3 rfl ?_
  refine wpAnyH_ready (rs := [1]) (by kernel_rfl) (by simp) ?_
  refine (AllReadyH.cons rfl (fun K hK => ?_) AllReadyH.nil)
  go_simp
  refine (l7Count_any lb nx none 0 ([] : List Pe) 0 (-1) 0 (by simp) _ FL.out.lat (Or.inl rfl)).mono ?_
  rintro e v_42 ⟨rfl, hb⟩
  have F0 : Hid (HAt v_42 w.heap.size h) := F0.out.below hb F0.out.lt
  have FL : Hid (LW v_42 lb nx (.slice none 0 0)) := FL.out.below hb FL.out.lt
  have FG : Hid (w.grownBy v_42 (some lb)) := gr_below FG.out hb
  clear hb
  have mq := F0.out.c11
  try dsimp only
  refine hK.out _ _ (by (try dsimp only); first | exact mq | go_keep) (fun hHeld => ?_)
  clear hK K
  try simp only [Act.put, List.getElem_toArray, List.getElem_cons_succ, List.getElem_cons_zero, List.setIfInBounds_toArray, List.set_cons_zero, List.set_cons_succ]
  refine tkz 4 rfl ?_
  refine wpAnyH_done (by kernel_rfl) ?_ _
  go_upto_region 8 with fail
  obtain ⟨w2, hW_⟩ : ∃ w2, w2 = v_42 := ⟨_, rfl⟩
  have F0 : Hid (HAt w2 w.heap.size h) := by rw [hW_]; exact F0.out
  have FL : Hid (LW w2 lb nx (.slice none 0 0)) := by rw [hW_]; exact FL.out
  have FG : Hid (w.grownBy w2 (some lb)) := by rw [hW_]; exact FG.out
  rw [← hW_]
  clear hW_
  obtain ⟨v0, v1, v2, v3⟩ := FL.out
  have ewl : IntKind.i64.wrap ((0 : Int) - 1) = -1 := by decide
  go_wp2_with fail
  go_loopw [14, 15] (fun oo ii wr => (ii = .int .i64 (-1) ∧ oo = .int .i64 (-1)) ∧ HAt wr w.heap.size h ∧ LW wr lb nx (.slice none 0 0) ∧ w.grownBy wr (some lb)) (fun _ _ _ => 0)
  case atStart => exact ⟨⟨rfl, rfl⟩, F0.out, FL.out, FG.out⟩
  case round =>
    obtain ⟨⟨rfl, rfl⟩, hF0, hFL, hFG⟩ := hrel
    clear F0 FL FG
    have F0 : Hid (HAt wr w.heap.size h) := hF0
    have FL : Hid (LW wr lb nx (.slice none 0 0)) := hFL
    have FG : Hid (w.grownBy wr (some lb)) := hFG
    clear hF0 hFL hFG
    obtain ⟨v0, v1, v2, v3⟩ := FL.out
    by_cases km : nx = 1000000000000000
    · rw [if_pos (Or.inl km)] at hK
      subst hK
      have bm : (nx == 1000000000000000) = true := by simpa using km
      clear km
      go_wp2_with fail
      go_ret
      exact ⟨rfl, .slice none 0 0, (by first | exact FL.out | (rw [if_neg (by omega)]; exact FL.out)), (by first | exact own_nil _ _ | (rw [if_neg (by omega)]; exact own_nil _ _)), (fun e => by cases e), FG.out⟩
    · rw [if_neg (by simp; omega)] at hK
      subst hK
      have bm : (nx == 1000000000000000) = false := by simpa using km
      have HF : Hid (freeL ([] : List Pe) ++ [(⟨nx, f, t, sh, ca, 0, 0⟩ : Pe)] = [] ++ [(⟨nx, f, t, sh, ca, 0, 0⟩ : Pe)]) := rfl
      clear km
      go_upto_region 19 with fail
      obtain ⟨wq, hwq⟩ : ∃ wq, wq = wr := ⟨_, rfl⟩
      subst hwq
      have F0 : Hid (HAt wq.drew w.heap.size h) := F0.out.below (Below.refl _ _).drew F0.out.lt
      have FL : Hid (LW wq.drew lb nx (.slice none 0 0)) := FL.out.below (Below.refl _ _).drew FL.out.lt
      have FG : Hid (w.grownBy wq.drew (some lb)) := gr_drew FG.out
      have ml := FL.out.c0
      refine wp_region_held_drew (S := (fun w'' => w''.cell? ⟨lb, 0, none⟩ = some (.int .i64 nx))) (by kernel_rfl) (by (try dsimp only); first | exact ml | go_keep) (fun hHeld => ?_)
      obtain ⟨v_43, hw1⟩ : ∃ v_43, v_43 = wq.drew := ⟨_, rfl⟩
      have F0 : Hid (HAt v_43 w.heap.size h) := by rw [hw1]; exact F0.out
      have FL : Hid (LW v_43 lb nx (.slice none 0 0)) := by rw [hw1]; exact FL.out
      have FG : Hid (w.grownBy v_43 (some lb)) := by rw [hw1]; exact FG.out
      rw [← hw1] at hHeld ⊢
      clear hw1
      have ml := FL.out.c0
      refine tkz 0 rfl ?_
      refine tkz 2 rfl ?_
      refine tkz 4 rfl ?_
      refine tkz 5 rfl ?_
      refine tkz 6 rfl ?_
      refine tkz 7 rfl ?_
      refine tkz 8 rfl ?_
      refine tkz 9 rfl ?_
      refine tkz 10 rfl ?_
      refine tkz 11 rfl ?_
      refine tkz 12 rfl ?_
      refine wpAnyH_ready (rs := [1, 13]) (by kernel_rfl) (by simp) ?_
      refine (AllReadyH.cons rfl (fun K hK => ?_) (AllReadyH.cons rfl (fun K hK => ?_) AllReadyH.nil))
      · refine step_of rfl ?_
        go_simp
        obtain ⟨eb, heb⟩ : ∃ eb, eb = v_43.heap.size := ⟨_, rfl⟩
        have leb0 := F0.out.lt
        have leb1 := FL.out.lt
        have leb2 := FG.out.size
        rw [← heb] at leb0 leb1 leb2
        first | (have ly_ := FN.out.lt; rw [← heb] at ly_) | skip
        obtain ⟨v_44, hw2⟩ : ∃ v_44, v_44 = v_43.alloc (.cells #[] 42) := ⟨_, rfl⟩
        have F0 : Hid (HAt v_44 w.heap.size h) := by rw [hw2]; exact F0.out.alloc _
        have FL : Hid (LW v_44 lb nx (.slice none 0 0)) := by rw [hw2]; exact FL.out.alloc _
        have FG : Hid (w.grownBy v_44 (some lb)) := by rw [hw2]; exact grown_trans FG.out (grown_new _ _ _)
        have FE : Hid (Own v_44 eb (.slice (some ⟨eb, 0, none⟩) 0 0) []) := by rw [hw2, heb]; exact own_empty v_43 _ (Nat.le_refl _)
        rw [← hw2, ← heb]
        clear hw2 heb
        have ml := FL.out.c0
        refine hK.out _ _ (by (try dsimp only); first | exact ml | go_keep) (fun hHeld => ?_)
        clear hK K
        try simp only [Act.put, List.getElem_toArray, List.getElem_cons_succ, List.getElem_cons_zero, List.setIfInBounds_toArray, List.set_cons_zero, List.set_cons_succ]
        refine wpAnyH_ready (rs := [3, 13]) (by kernel_rfl) (by simp) ?_
        refine (AllReadyH.cons rfl (fun K hK => ?_) (AllReadyH.cons rfl (fun K hK => ?_) AllReadyH.nil))
        · refine step_of rfl ?_
          refine wp_append_none eb _ 0 _ rfl FE.out rfl ?_
          obtain ⟨v_45, hw2⟩ : ∃ v_45, v_45 = v_44 := ⟨_, rfl⟩
          obtain ⟨g3, hg3⟩ : ∃ g3, g3 = eb := ⟨_, rfl⟩
          have F0 : Hid (HAt v_45 w.heap.size h) := by rw [hw2]; exact F0.out
          have FL : Hid (LW v_45 lb nx (.slice none 0 0)) := by rw [hw2]; exact FL.out
          have FG : Hid (w.grownBy v_45 (some lb)) := by rw [hw2]; exact FG.out
          have FA : Hid (Own v_45 eb (.slice (some ⟨g3, 0, none⟩) 0 0) []) := by rw [hw2, hg3]; exact FE.out
          have lg3 : eb ≤ g3 := by omega
          rw [← hw2, ← hg3]
          clear hw2 hg3
          have ml := FL.out.c0
          refine hK.out _ _ (by (try dsimp only); first | exact ml | go_keep) (fun hHeld => ?_)
          clear hK K
          try simp only [Act.put, List.getElem_toArray, List.getElem_cons_succ, List.getElem_cons_zero, List.setIfInBounds_toArray, List.set_cons_zero, List.set_cons_succ]
          refine wpAnyH_ready (rs := [13]) (by kernel_rfl) (by simp) ?_
          refine (AllReadyH.cons rfl (fun K hK => ?_) AllReadyH.nil)
          refine step_of rfl ?_
          go_simp
          obtain ⟨nb, hnb⟩ : ∃ nb, nb = v_45.heap.size := ⟨_, rfl⟩
          have lnb0 := F0.out.lt
          have lnb1 := FL.out.lt
          have lnb2 := FG.out.size
          rw [← hnb] at lnb0 lnb1 lnb2
          first | (have lx_ := (FE.out.lt eb rfl).2; rw [← hnb] at lx_) | skip
          obtain ⟨v_46, hw2⟩ : ∃ v_46, v_46 = v_45.alloc (.cells #[.int .i64 nx, .int .i64 f, .int .i64 t, .int .i64 sh, .int .i64 ca, .int .i64 0, .int .i64 0] 42) := ⟨_, rfl⟩
          have F0 : Hid (HAt v_46 w.heap.size h) := by rw [hw2]; exact F0.out.alloc _
          have FL : Hid (LW v_46 lb nx (.slice none 0 0)) := by rw [hw2]; exact FL.out.alloc _
          have FG : Hid (w.grownBy v_46 (some lb)) := by rw [hw2]; exact grown_trans FG.out (grown_new _ _ _)
          have FA : Hid (Own v_46 eb (.slice (some ⟨g3, 0, none⟩) 0 0) []) := by rw [hw2]; exact FA.out.alloc _
          have FN : Hid (P7 v_46 nb 0 (⟨nx, f, t, sh, ca, 0, 0⟩ : Pe)) := by rw [hw2]; exact P7.at_ v_45 (⟨nx, f, t, sh, ca, 0, 0⟩ : Pe) _ _ hnb
          rw [← hw2, ← hnb]
          clear hw2 hnb
          have ml := FL.out.c0
          refine hK.out _ _ (by (try dsimp only); first | exact ml | go_keep) (fun hHeld => ?_)
          clear hK K
          try simp only [Act.put, List.getElem_toArray, List.getElem_cons_succ, List.getElem_cons_zero, List.setIfInBounds_toArray, List.set_cons_zero, List.set_cons_succ]
          refine wpAnyH_ready (rs := [14]) (by kernel_rfl) (by simp) ?_
          refine (AllReadyH.cons rfl (fun K hK => ?_) AllReadyH.nil)
          refine step_of rfl ?_
          refine wp_append_pe eb g3 0 0 ([] : List Pe) [(⟨nx, f, t, sh, ca, 0, 0⟩ : Pe)] rfl FA.out ⟨nb, 0, none⟩ 1 rfl (fun _ => ⟨nb, 0, rfl, fun i p hp => by cases i with | zero => (simp at hp; subst hp; exact FN.out) | succ i => simp at hp⟩) (by simp <;> omega) (by have := (FA.out.lt g3 rfl).2; omega) ?_
          intro g4 c4 v_47 ho hg
          rw [show (([] : List Pe) ++ [(⟨nx, f, t, sh, ca, 0, 0⟩ : Pe)]).length = (([] : List Pe)).length + 1 from by rw [List.length_append]; rfl] at ho ⊢
          have F0 : Hid (HAt v_47 w.heap.size h) := F0.out.grown hg (fun e => by have e2 := Option.some.inj e; omega)
          have FL : Hid (LW v_47 lb nx (.slice none 0 0)) := FL.out.grown hg (fun e => by have e2 := Option.some.inj e; omega)
          have FG : Hid (w.grownBy v_47 (some lb)) := gr_new FG.out hg (by omega)
          have FZ : Hid (Own v_47 eb (.slice (some ⟨g4, 0, none⟩) ((([] : List Pe)).length + 1) c4) (([] : List Pe) ++ [(⟨nx, f, t, sh, ca, 0, 0⟩ : Pe)])) := ho
          have lg4 : eb ≤ g4 := (FZ.out.lt g4 rfl).1
          clear ho hg
          have ml := FL.out.c0
          refine hK.out _ _ (by (try dsimp only); first | exact ml | go_keep) (fun hHeld => ?_)
          clear hK K
          try simp only [Act.put, List.getElem_toArray, List.getElem_cons_succ, List.getElem_cons_zero, List.setIfInBounds_toArray, List.set_cons_zero, List.set_cons_succ]
          refine tkz 15 rfl ?_
          refine tkz 16 rfl ?_
          refine wpAnyH_ready (rs := [17]) (by kernel_rfl) (by simp) ?_
          refine (AllReadyH.cons rfl (fun K hK => ?_) AllReadyH.nil)
          obtain ⟨k0, k1, k2, k3⟩ := FL.out
          go_simp
          obtain ⟨v_48, hw2⟩ : ∃ v_48, v_48 = v_47.setCell ⟨lb, 1, none⟩ (.slice (some ⟨g4, 0, none⟩) ((([] : List Pe)).length + 1) c4) := ⟨_, rfl⟩
          change K _ (v_47.setCell ⟨lb, 1, none⟩ (.slice (some ⟨g4, 0, none⟩) ((([] : List Pe)).length + 1) c4))
          rw [← hw2]
          clear k0 k1 k2 k3
          have FL : Hid (LW v_48 lb nx (.slice (some ⟨g4, 0, none⟩) ((([] : List Pe)).length + 1) c4)) := by rw [hw2]; exact FL.out.set1 _
          have FG : Hid (w.grownBy v_48 (some lb)) := by rw [hw2]; exact grown_trans FG.out (grown_set1 _ lb _ _)
          have FZ : Hid (Own v_48 eb (.slice (some ⟨g4, 0, none⟩) ((([] : List Pe)).length + 1) c4) (([] : List Pe) ++ [(⟨nx, f, t, sh, ca, 0, 0⟩ : Pe)])) := by rw [hw2]; exact FZ.out.other (fun e => by have e2 := Option.some.inj e; simp at e2; omega) _
          clear hw2
          have ml := FL.out.c0
          refine hK.out _ _ (by (try dsimp only); first | exact ml | go_keep) (fun hHeld => ?_)
          clear hK K
          try simp only [Act.put, List.getElem_toArray, List.getElem_cons_succ, List.getElem_cons_zero, List.setIfInBounds_toArray, List.set_cons_zero, List.set_cons_succ]
          refine wpAnyH_done (by kernel_rfl) ?_ _
          go_upto_region 20 with fail
          obtain ⟨k0, k1, k2, k3⟩ := FL.out
          have ex : IntKind.i64.wrap (nx + 1) = nx + 1 := IntWalk.i64_in _ (by omega)
          go_wp2_with fail
          go_ret
          exact ⟨rfl, .slice (some ⟨g4, 0, none⟩) ((([] : List Pe)).length + 1) c4, (by first | exact FL.out.set0 _ | (rw [if_pos rfl]; exact FL.out.set0 _)), by (have q := (FZ.out.base (show B ≤ eb by omega)).other (p := ⟨lb, 0, none⟩) (fun e => by have e2 := Option.some.inj e; simp at e2; omega) (.int .i64 (nx + 1))); first | (rw [HF.out]; exact q) | (rw [if_pos rfl, HF.out]; exact q), (fun e => by have e2 := Option.some.inj e; simp at e2; omega), grown_trans FG.out (grown_set1 _ lb _ _)⟩
        · refine step_of rfl ?_
          go_simp
          obtain ⟨nb, hnb⟩ : ∃ nb, nb = v_44.heap.size := ⟨_, rfl⟩
          have lnb0 := F0.out.lt
          have lnb1 := FL.out.lt
          have lnb2 := FG.out.size
          rw [← hnb] at lnb0 lnb1 lnb2
          first | (have lx_ := (FE.out.lt eb rfl).2; rw [← hnb] at lx_) | skip
          obtain ⟨v_49, hw2⟩ : ∃ v_49, v_49 = v_44.alloc (.cells #[.int .i64 nx, .int .i64 f, .int .i64 t, .int .i64 sh, .int .i64 ca, .int .i64 0, .int .i64 0] 42) := ⟨_, rfl⟩
          have F0 : Hid (HAt v_49 w.heap.size h) := by rw [hw2]; exact F0.out.alloc _
          have FL : Hid (LW v_49 lb nx (.slice none 0 0)) := by rw [hw2]; exact FL.out.alloc _
          have FG : Hid (w.grownBy v_49 (some lb)) := by rw [hw2]; exact grown_trans FG.out (grown_new _ _ _)
          have FE : Hid (Own v_49 eb (.slice (some ⟨eb, 0, none⟩) 0 0) []) := by rw [hw2]; exact FE.out.alloc _
          have FN : Hid (P7 v_49 nb 0 (⟨nx, f, t, sh, ca, 0, 0⟩ : Pe)) := by rw [hw2]; exact P7.at_ v_44 (⟨nx, f, t, sh, ca, 0, 0⟩ : Pe) _ _ hnb
          rw [← hw2, ← hnb]
          clear hw2 hnb
          have ml := FL.out.c0
          refine hK.out _ _ (by (try dsimp only); first | exact ml | go_keep) (fun hHeld => ?_)
          clear hK K
          try simp only [Act.put, List.getElem_toArray, List.getElem_cons_succ, List.getElem_cons_zero, List.setIfInBounds_toArray, List.set_cons_zero, List.set_cons_succ]
          refine wpAnyH_ready (rs := [3]) (by kernel_rfl) (by simp) ?_
          refine (AllReadyH.cons rfl (fun K hK => ?_) AllReadyH.nil)
          refine step_of rfl ?_
          refine wp_append_none eb _ 0 _ rfl FE.out rfl ?_
          obtain ⟨v_50, hw2⟩ : ∃ v_50, v_50 = v_49 := ⟨_, rfl⟩
          obtain ⟨g3, hg3⟩ : ∃ g3, g3 = eb := ⟨_, rfl⟩
          have F0 : Hid (HAt v_50 w.heap.size h) := by rw [hw2]; exact F0.out
          have FL : Hid (LW v_50 lb nx (.slice none 0 0)) := by rw [hw2]; exact FL.out
          have FG : Hid (w.grownBy v_50 (some lb)) := by rw [hw2]; exact FG.out
          have FN : Hid (P7 v_50 nb 0 (⟨nx, f, t, sh, ca, 0, 0⟩ : Pe)) := by rw [hw2]; exact FN.out
          have FA : Hid (Own v_50 eb (.slice (some ⟨g3, 0, none⟩) 0 0) []) := by rw [hw2, hg3]; exact FE.out
          have lg3 : eb ≤ g3 := by omega
          rw [← hw2, ← hg3]
          clear hw2 hg3
          have ml := FL.out.c0
          refine hK.out _ _ (by (try dsimp only); first | exact ml | go_keep) (fun hHeld => ?_)
          clear hK K
          try simp only [Act.put, List.getElem_toArray, List.getElem_cons_succ, List.getElem_cons_zero, List.setIfInBounds_toArray, List.set_cons_zero, List.set_cons_succ]
          refine wpAnyH_ready (rs := [14]) (by kernel_rfl) (by simp) ?_
          refine (AllReadyH.cons rfl (fun K hK => ?_) AllReadyH.nil)
          refine step_of rfl ?_
          refine wp_append_pe eb g3 0 0 ([] : List Pe) [(⟨nx, f, t, sh, ca, 0, 0⟩ : Pe)] rfl FA.out ⟨nb, 0, none⟩ 1 rfl (fun _ => ⟨nb, 0, rfl, fun i p hp => by cases i with | zero => (simp at hp; subst hp; exact FN.out) | succ i => simp at hp⟩) (by simp <;> omega) (by have := (FA.out.lt g3 rfl).2; omega) ?_
          intro g4 c4 v_51 ho hg
          rw [show (([] : List Pe) ++ [(⟨nx, f, t, sh, ca, 0, 0⟩ : Pe)]).length = (([] : List Pe)).length + 1 from by rw [List.length_append]; rfl] at ho ⊢
          have F0 : Hid (HAt v_51 w.heap.size h) := F0.out.grown hg (fun e => by have e2 := Option.some.inj e; omega)
          have FL : Hid (LW v_51 lb nx (.slice none 0 0)) := FL.out.grown hg (fun e => by have e2 := Option.some.inj e; omega)
          have FG : Hid (w.grownBy v_51 (some lb)) := gr_new FG.out hg (by omega)
          have FZ : Hid (Own v_51 eb (.slice (some ⟨g4, 0, none⟩) ((([] : List Pe)).length + 1) c4) (([] : List Pe) ++ [(⟨nx, f, t, sh, ca, 0, 0⟩ : Pe)])) := ho
          have lg4 : eb ≤ g4 := (FZ.out.lt g4 rfl).1
          clear ho hg
          have ml := FL.out.c0
          refine hK.out _ _ (by (try dsimp only); first | exact ml | go_keep) (fun hHeld => ?_)
          clear hK K
          try simp only [Act.put, List.getElem_toArray, List.getElem_cons_succ, List.getElem_cons_zero, List.setIfInBounds_toArray, List.set_cons_zero, List.set_cons_succ]
          refine tkz 15 rfl ?_
          refine tkz 16 rfl ?_
          refine wpAnyH_ready (rs := [17]) (by kernel_rfl) (by simp) ?_
          refine (AllReadyH.cons rfl (fun K hK => ?_) AllReadyH.nil)
          obtain ⟨k0, k1, k2, k3⟩ := FL.out
          go_simp
          obtain ⟨v_52, hw2⟩ : ∃ v_52, v_52 = v_51.setCell ⟨lb, 1, none⟩ (.slice (some ⟨g4, 0, none⟩) ((([] : List Pe)).length + 1) c4) := ⟨_, rfl⟩
          change K _ (v_51.setCell ⟨lb, 1, none⟩ (.slice (some ⟨g4, 0, none⟩) ((([] : List Pe)).length + 1) c4))
          rw [← hw2]
          clear k0 k1 k2 k3
          have FL : Hid (LW v_52 lb nx (.slice (some ⟨g4, 0, none⟩) ((([] : List Pe)).length + 1) c4)) := by rw [hw2]; exact FL.out.set1 _
          have FG : Hid (w.grownBy v_52 (some lb)) := by rw [hw2]; exact grown_trans FG.out (grown_set1 _ lb _ _)
          have FZ : Hid (Own v_52 eb (.slice (some ⟨g4, 0, none⟩) ((([] : List Pe)).length + 1) c4) (([] : List Pe) ++ [(⟨nx, f, t, sh, ca, 0, 0⟩ : Pe)])) := by rw [hw2]; exact FZ.out.other (fun e => by have e2 := Option.some.inj e; simp at e2; omega) _
          clear hw2
          have ml := FL.out.c0
          refine hK.out _ _ (by (try dsimp only); first | exact ml | go_keep) (fun hHeld => ?_)
          clear hK K
          try simp only [Act.put, List.getElem_toArray, List.getElem_cons_succ, List.getElem_cons_zero, List.setIfInBounds_toArray, List.set_cons_zero, List.set_cons_succ]
          refine wpAnyH_done (by kernel_rfl) ?_ _
          go_upto_region 20 with fail
          obtain ⟨k0, k1, k2, k3⟩ := FL.out
          have ex : IntKind.i64.wrap (nx + 1) = nx + 1 := IntWalk.i64_in _ (by omega)
          go_wp2_with fail
          go_ret
          exact ⟨rfl, .slice (some ⟨g4, 0, none⟩) ((([] : List Pe)).length + 1) c4, (by first | exact FL.out.set0 _ | (rw [if_pos rfl]; exact FL.out.set0 _)), by (have q := (FZ.out.base (show B ≤ eb by omega)).other (p := ⟨lb, 0, none⟩) (fun e => by have e2 := Option.some.inj e; simp at e2; omega) (.int .i64 (nx + 1))); first | (rw [HF.out]; exact q) | (rw [if_pos rfl, HF.out]; exact q), (fun e => by have e2 := Option.some.inj e; simp at e2; omega), grown_trans FG.out (grown_set1 _ lb _ _)⟩
      · refine step_of rfl ?_
        go_simp
        obtain ⟨nb, hnb⟩ : ∃ nb, nb = v_43.heap.size := ⟨_, rfl⟩
        have lnb0 := F0.out.lt
        have lnb1 := FL.out.lt
        have lnb2 := FG.out.size
        rw [← hnb] at lnb0 lnb1 lnb2
        first | (have lx_ := (FE.out.lt eb rfl).2; rw [← hnb] at lx_) | skip
        obtain ⟨v_53, hw2⟩ : ∃ v_53, v_53 = v_43.alloc (.cells #[.int .i64 nx, .int .i64 f, .int .i64 t, .int .i64 sh, .int .i64 ca, .int .i64 0, .int .i64 0] 42) := ⟨_, rfl⟩
        have F0 : Hid (HAt v_53 w.heap.size h) := by rw [hw2]; exact F0.out.alloc _
        have FL : Hid (LW v_53 lb nx (.slice none 0 0)) := by rw [hw2]; exact FL.out.alloc _
        have FG : Hid (w.grownBy v_53 (some lb)) := by rw [hw2]; exact grown_trans FG.out (grown_new _ _ _)
        have FN : Hid (P7 v_53 nb 0 (⟨nx, f, t, sh, ca, 0, 0⟩ : Pe)) := by rw [hw2]; exact P7.at_ v_43 (⟨nx, f, t, sh, ca, 0, 0⟩ : Pe) _ _ hnb
        rw [← hw2, ← hnb]
        clear hw2 hnb
        have ml := FL.out.c0
        refine hK.out _ _ (by (try dsimp only); first | exact ml | go_keep) (fun hHeld => ?_)
        clear hK K
        try simp only [Act.put, List.getElem_toArray, List.getElem_cons_succ, List.getElem_cons_zero, List.setIfInBounds_toArray, List.set_cons_zero, List.set_cons_succ]
        refine wpAnyH_ready (rs := [1]) (by kernel_rfl) (by simp) ?_
        refine (AllReadyH.cons rfl (fun K hK => ?_) AllReadyH.nil)
        refine step_of rfl ?_
        go_simp
        obtain ⟨eb, heb⟩ : ∃ eb, eb = v_53.heap.size := ⟨_, rfl⟩
        have leb0 := F0.out.lt
        have leb1 := FL.out.lt
        have leb2 := FG.out.size
        rw [← heb] at leb0 leb1 leb2
        first | (have ly_ := FN.out.lt; rw [← heb] at ly_) | skip
        obtain ⟨v_54, hw2⟩ : ∃ v_54, v_54 = v_53.alloc (.cells #[] 42) := ⟨_, rfl⟩
        have F0 : Hid (HAt v_54 w.heap.size h) := by rw [hw2]; exact F0.out.alloc _
        have FL : Hid (LW v_54 lb nx (.slice none 0 0)) := by rw [hw2]; exact FL.out.alloc _
        have FG : Hid (w.grownBy v_54 (some lb)) := by rw [hw2]; exact grown_trans FG.out (grown_new _ _ _)
        have FN : Hid (P7 v_54 nb 0 (⟨nx, f, t, sh, ca, 0, 0⟩ : Pe)) := by rw [hw2]; exact FN.out.alloc _
        have FE : Hid (Own v_54 eb (.slice (some ⟨eb, 0, none⟩) 0 0) []) := by rw [hw2, heb]; exact own_empty v_53 _ (Nat.le_refl _)
        rw [← hw2, ← heb]
        clear hw2 heb
        have ml := FL.out.c0
        refine hK.out _ _ (by (try dsimp only); first | exact ml | go_keep) (fun hHeld => ?_)
        clear hK K
        try simp only [Act.put, List.getElem_toArray, List.getElem_cons_succ, List.getElem_cons_zero, List.setIfInBounds_toArray, List.set_cons_zero, List.set_cons_succ]
        refine wpAnyH_ready (rs := [3]) (by kernel_rfl) (by simp) ?_
        refine (AllReadyH.cons rfl (fun K hK => ?_) AllReadyH.nil)
        refine step_of rfl ?_
        refine wp_append_none eb _ 0 _ rfl FE.out rfl ?_
        obtain ⟨v_55, hw2⟩ : ∃ v_55, v_55 = v_54 := ⟨_, rfl⟩
        obtain ⟨g3, hg3⟩ : ∃ g3, g3 = eb := ⟨_, rfl⟩
        have F0 : Hid (HAt v_55 w.heap.size h) := by rw [hw2]; exact F0.out
        have FL : Hid (LW v_55 lb nx (.slice none 0 0)) := by rw [hw2]; exact FL.out
        have FG : Hid (w.grownBy v_55 (some lb)) := by rw [hw2]; exact FG.out
        have FN : Hid (P7 v_55 nb 0 (⟨nx, f, t, sh, ca, 0, 0⟩ : Pe)) := by rw [hw2]; exact FN.out
        have FA : Hid (Own v_55 eb (.slice (some ⟨g3, 0, none⟩) 0 0) []) := by rw [hw2, hg3]; exact FE.out
        have lg3 : eb ≤ g3 := by omega
        rw [← hw2, ← hg3]
        clear hw2 hg3
        have ml := FL.out.c0
        refine hK.out _ _ (by (try dsimp only); first | exact ml | go_keep) (fun hHeld => ?_)
        clear hK K
        try simp only [Act.put, List.getElem_toArray, List.getElem_cons_succ, List.getElem_cons_zero, List.setIfInBounds_toArray, List.set_cons_zero, List.set_cons_succ]
        refine wpAnyH_ready (rs := [14]) (by kernel_rfl) (by simp) ?_
        refine (AllReadyH.cons rfl (fun K hK => ?_) AllReadyH.nil)
        refine step_of rfl ?_
        refine wp_append_pe eb g3 0 0 ([] : List Pe) [(⟨nx, f, t, sh, ca, 0, 0⟩ : Pe)] rfl FA.out ⟨nb, 0, none⟩ 1 rfl (fun _ => ⟨nb, 0, rfl, fun i p hp => by cases i with | zero => (simp at hp; subst hp; exact FN.out) | succ i => simp at hp⟩) (by simp <;> omega) (by have := (FA.out.lt g3 rfl).2; omega) ?_
        intro g4 c4 v_56 ho hg
        rw [show (([] : List Pe) ++ [(⟨nx, f, t, sh, ca, 0, 0⟩ : Pe)]).length = (([] : List Pe)).length + 1 from by rw [List.length_append]; rfl] at ho ⊢
        have F0 : Hid (HAt v_56 w.heap.size h) := F0.out.grown hg (fun e => by have e2 := Option.some.inj e; omega)
        have FL : Hid (LW v_56 lb nx (.slice none 0 0)) := FL.out.grown hg (fun e => by have e2 := Option.some.inj e; omega)
        have FG : Hid (w.grownBy v_56 (some lb)) := gr_new FG.out hg (by omega)
        have FZ : Hid (Own v_56 eb (.slice (some ⟨g4, 0, none⟩) ((([] : List Pe)).length + 1) c4) (([] : List Pe) ++ [(⟨nx, f, t, sh, ca, 0, 0⟩ : Pe)])) := ho
        have lg4 : eb ≤ g4 := (FZ.out.lt g4 rfl).1
        clear ho hg
        have ml := FL.out.c0
        refine hK.out _ _ (by (try dsimp only); first | exact ml | go_keep) (fun hHeld => ?_)
        clear hK K
        try simp only [Act.put, List.getElem_toArray, List.getElem_cons_succ, List.getElem_cons_zero, List.setIfInBounds_toArray, List.set_cons_zero, List.set_cons_succ]
        refine tkz 15 rfl ?_
        refine tkz 16 rfl ?_
        refine wpAnyH_ready (rs := [17]) (by kernel_rfl) (by simp) ?_
        refine (AllReadyH.cons rfl (fun K hK => ?_) AllReadyH.nil)
        obtain ⟨k0, k1, k2, k3⟩ := FL.out
        go_simp
        obtain ⟨v_57, hw2⟩ : ∃ v_57, v_57 = v_56.setCell ⟨lb, 1, none⟩ (.slice (some ⟨g4, 0, none⟩) ((([] : List Pe)).length + 1) c4) := ⟨_, rfl⟩
        change K _ (v_56.setCell ⟨lb, 1, none⟩ (.slice (some ⟨g4, 0, none⟩) ((([] : List Pe)).length + 1) c4))
        rw [← hw2]
        clear k0 k1 k2 k3
        have FL : Hid (LW v_57 lb nx (.slice (some ⟨g4, 0, none⟩) ((([] : List Pe)).length + 1) c4)) := by rw [hw2]; exact FL.out.set1 _
        have FG : Hid (w.grownBy v_57 (some lb)) := by rw [hw2]; exact grown_trans FG.out (grown_set1 _ lb _ _)
        have FZ : Hid (Own v_57 eb (.slice (some ⟨g4, 0, none⟩) ((([] : List Pe)).length + 1) c4) (([] : List Pe) ++ [(⟨nx, f, t, sh, ca, 0, 0⟩ : Pe)])) := by rw [hw2]; exact FZ.out.other (fun e => by have e2 := Option.some.inj e; simp at e2; omega) _
        clear hw2
        have ml := FL.out.c0
        refine hK.out _ _ (by (try dsimp only); first | exact ml | go_keep) (fun hHeld => ?_)
        clear hK K
        try simp only [Act.put, List.getElem_toArray, List.getElem_cons_succ, List.getElem_cons_zero, List.setIfInBounds_toArray, List.set_cons_zero, List.set_cons_succ]
        refine wpAnyH_done (by kernel_rfl) ?_ _
        go_upto_region 20 with fail
        obtain ⟨k0, k1, k2, k3⟩ := FL.out
        have ex : IntKind.i64.wrap (nx + 1) = nx + 1 := IntWalk.i64_in _ (by omega)
        go_wp2_with fail
        go_ret
        exact ⟨rfl, .slice (some ⟨g4, 0, none⟩) ((([] : List Pe)).length + 1) c4, (by first | exact FL.out.set0 _ | (rw [if_pos rfl]; exact FL.out.set0 _)), by (have q := (FZ.out.base (show B ≤ eb by omega)).other (p := ⟨lb, 0, none⟩) (fun e => by have e2 := Option.some.inj e; simp at e2; omega) (.int .i64 (nx + 1))); first | (rw [HF.out]; exact q) | (rw [if_pos rfl, HF.out]; exact q), (fun e => by have e2 := Option.some.inj e; simp at e2; omega), grown_trans FG.out (grown_set1 _ lb _ _)⟩
end Go.Proofs.Ytoekhkolakielaa
