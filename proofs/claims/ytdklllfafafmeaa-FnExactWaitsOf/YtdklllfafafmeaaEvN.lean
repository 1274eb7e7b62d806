/-
  What was seen: the ids of the events of a kind, in order (the model).
-/
import Derived.Test.YtdklllfafafmeaaEvY
import Derived.Test.YtdklllfafafmeaaInts
import Derived.Deep.RegionHeld3
import Derived.BigGuardPart
import Derived.Laws.AppendOwnNone
import Derived.OwnWalk
namespace Go.Proofs.Ytdklllfafafmeaa
open Go.RowKit Pl
set_option linter.unusedSimpArgs false
set_option linter.unusedVariables false

theorem wp_append_i {w : World} {a : Act} {K : Act → World → Prop} {Q : Exit → Act → World → Prop} {s x : Operand} {dst : Option Tmp} {ty : TypeId} {ps : String} {af : Array Edge}
    (B g0 n0 c0 : Nat) (l m : List Int) (hs : a.eval s = .slice (some ⟨g0, 0, none⟩) n0 c0) (hown : OwI w B (.slice (some ⟨g0, 0, none⟩) n0 c0) l) (ad : Addr) (c : Nat) (hx : a.eval x = .slice (some ad) m.length c)
    (hm : 0 < m.length → ∃ b o, ad = ⟨b, o, none⟩ ∧ ∀ i p, m[i]? = some p → w.cell? ⟨b, o + i, none⟩ = some (.int .i64 p)) (hlen : l.length + m.length ≤ 1000) (hB : B ≤ w.heap.size)
    (h : ∀ g' c' w', OwI w' B (.slice (some ⟨g', 0, none⟩) (l ++ m).length c') (l ++ m) → w.grownBy w' (some g0) → K (a.put dst (.slice (some ⟨g', 0, none⟩) (l ++ m).length c')) w') :
    Oper.wp Try.prog { dst := dst, op := .call { callee := .builtin .append, args := #[s, x], argTypes := #[26, 26] }, type := ty, pos := ps, after := af, guard := none } a w K Q := by
  obtain ⟨i, hi, hz, hsz, hby⟩ := info_parts info64
  have hnews : ∀ j u, (intsV m)[j]? = some u → w.cell? (ad.add j) = some u := by
    intro j u hu
    unfold intsV at hu
    rw [List.getElem?_map] at hu
    cases hq : m[j]? with
    | none => rw [hq] at hu; cases hu
    | some q =>
      rw [hq] at hu
      have hu' : Value.int .i64 q = u := by simpa using hu
      subst hu'
      obtain ⟨b, o, rfl, h7⟩ := hm (by have := (List.getElem?_eq_some_iff.1 hq).1; omega)
      have e : (⟨b, o, none⟩ : Addr).add j = ⟨b, o + j, none⟩ := by simp [Addr.add]
      rw [e]
      exact h7 j q hq
  have hone : ∀ u ∈ intsV m, u.oneCell' = true := by
    intro u hu
    unfold intsV at hu
    obtain ⟨q, _, rfl⟩ := List.mem_map.1 hu
    rfl
  refine wp_append_own (P := Try.prog) w s x 26 rfl B 2 i (.int .i64 0) 1 8 undI64S hi hz hsz hby rfl (by omega) _ l.length (intsV l) hs hown ad m.length c (intsV m) hx (by unfold intsV; rw [List.length_map, Nat.mul_one]) hnews hone (by unfold maxLen; omega) (by omega) hB ?_
  intro v' w' ho hg hn
  have ho' : OwI w' B v' (l ++ m) := by
    unfold OwI
    have e : intsV (l ++ m) = intsV l ++ intsV m := by simp [intsV]
    rw [List.length_append, e]
    exact ho
  rcases ho'.cases with ⟨e, _⟩ | ⟨g', c', e⟩
  · have q := (hn.1 e).1
    cases q
  · subst e
    exact h g' c' w' ho' hg
theorem step_i {P : Program} {ops : Array Oper} {o : Oper} {a : Act} {w : World} {K : Act → World → Prop} {Q : Exit → Act → World → Prop} {E : Prop} (hg : o.guard = none) (h : Oper.wp P o a w K Q) : if Region.wanted o (yielded ops a.tmps) = true then Oper.wp P o a w K Q else E := by
  rw [if_pos (by simp [Region.wanted, hg])]
  exact h
theorem cut_toI (g k n cap : Nat) (hk : k ≤ cap) : ∀ w, (Instr.slice 26 (.slice (some ⟨g, 0, none⟩) n cap) none (some (.int .i64 (k : Int))) none).run Try.prog w = .ok (.slice (some ⟨g, 0, none⟩) k cap) w := by
  intro w
  obtain ⟨i, hi, h0, hs, hb⟩ := info_parts info64
  have he : Try.prog.elem 26 = 2 := by kernel_rfl
  have hu : Try.prog.underlying 26 = some (.slice (Try.prog.elem 26)) := by rw [he]; exact undI64S
  have hsz : (sizeOf (Try.prog.elem 26)).run Try.prog w = .ok 1 w := by
    rw [he]
    simp [sizeOf, typeInfo, hi, hs]
  rw [run_slice_h _ _ _ _ _ hu .i64 (k : Int) (by omega) (by omega), hsz, Int.toNat_natCast]
  simp [Result.andThen, sliced, Addr.add]
theorem cut_fromI (g k n cap : Nat) (hk : k ≤ n) (hn : n ≤ cap) : ∃ ad : Addr, (k < cap → ad = ⟨g, k, none⟩) ∧ ∀ w, (Instr.slice 26 (.slice (some ⟨g, 0, none⟩) n cap) (some (.int .i64 (k : Int))) none none).run Try.prog w = .ok (.slice (some ad) (n - k) (cap - k)) w := by
  obtain ⟨i, hi, h0, hs, hb⟩ := info_parts info64
  have he : Try.prog.elem 26 = 2 := by kernel_rfl
  have hu : Try.prog.underlying 26 = some (.slice (Try.prog.elem 26)) := by rw [he]; exact undI64S
  by_cases c : k < cap
  · refine ⟨⟨g, k, none⟩, fun _ => rfl, fun w => ?_⟩
    have hsz : (sizeOf (Try.prog.elem 26)).run Try.prog w = .ok 1 w := by
      rw [he]
      simp [sizeOf, typeInfo, hi, hs]
    have c2 : ¬ cap - k = 0 := by omega
    rw [run_slice_l _ _ _ _ _ hu .i64 (k : Int) (by omega) (by omega), hsz, Int.toNat_natCast]
    have c3 : ¬ cap = k := by omega
    have c4 : ¬ cap ≤ k := by omega
    simp [Result.andThen, sliced, c2, c3, c4, Addr.add]
    intro h
    exact h.symm
  · refine ⟨⟨g, 0, none⟩, fun q => absurd q c, fun w => ?_⟩
    have hsz : (sizeOf (Try.prog.elem 26)).run Try.prog w = .ok 1 w := by
      rw [he]
      simp [sizeOf, typeInfo, hi, hs]
    have c2 : cap = k := by omega
    rw [run_slice_l _ _ _ _ _ hu .i64 (k : Int) (by omega) (by omega), hsz, Int.toNat_natCast]
    simp [Result.andThen, sliced, c2]
structure C1 (w : World) (b o : Nat) (x : Int) : Prop where
  c : w.cell? ⟨b, o, none⟩ = some (.int .i64 x)
theorem C1.lt {w : World} {b o : Nat} {x : Int} (a : C1 w b o x) : b < w.heap.size := World.block_lt_of_cell? w _ a.c
theorem C1.below {W w : World} {b o B : Nat} {x : Int} (a : C1 W b o x) (hb : Below B W w) (hB : b < B) : C1 w b o x := ⟨(hb.cell (p := ⟨b, o, none⟩) hB).trans a.c⟩
theorem C1.alloc {W : World} {b o : Nat} {x : Int} (a : C1 W b o x) (ob : Obj) : C1 (W.alloc ob) b o x := a.below ((Below.refl _ _).alloc (Nat.le_refl _) _) a.lt
theorem C1.grown {W w : World} {b o : Nat} {x : Int} {row : Option Nat} (a : C1 W b o x) (hg : W.grownBy w row) (hne : some b ≠ row) : C1 w b o x := ⟨(World.cell?_of_block (w := W) (hg.block b a.lt hne)).trans a.c⟩
theorem own_emptyI (w : World) (B : Nat) (hB : B ≤ w.heap.size) : OwI (w.alloc (.cells #[] 2)) B (.slice (some ⟨w.heap.size, 0, none⟩) 0 0) [] :=
  World.ownsRow_lit (base := B) (e := 2) (size := 1) w #[] 0 hB (by unfold maxLen; omega) rfl
theorem own_cap {w : World} {B g n cap : Nat} {l : List Int} (h : OwI w B (.slice (some ⟨g, 0, none⟩) n cap) l) : l.length ≤ cap := by
  rcases h.2 with ⟨e, _⟩ | ⟨g', c', cur, e, _, _, hle, _⟩
  · cases e
  · injection e with e1 e2 e3
    subst e3
    exact hle
theorem take_getI {l : List Int} {k i : Nat} {p : Int} (h : (l.take k)[i]? = some p) : l[i]? = some p := by
  rw [List.getElem?_take] at h
  split at h
  · exact h
  · cases h
set_option maxRecDepth 20000 in
set_option maxHeartbeats 32000000 in
theorem l10Ids_any (l : List Ev) (a : Option Addr) (cap : Nat) (kd : Int) (hl : l.length ≤ 200) (w : World) (hE : EIn w w.heap.size a l) :
    Calls Try.prog 15 #[.slice a l.length cap, .int .i64 kd] w fun e w' => (∃ v, e = .returned v ∧ OwI w' w.heap.size v (idsM kd l)) ∧ Below w.heap.size w w' := by
  have HE : Hid (EIn w w.heap.size a l) := hE
  clear hE
  obtain ⟨R, hR⟩ : ∃ R, idsM kd l = R := ⟨_, rfl⟩
  have HR : Hid (idsM kd l = R) := hR
  rw [hR]
  clear hR
  go_enter Try.func15, Try.ntmps15
  go_wp2_with fail
  go_loopw [5, 6] (fun vv ii wr => ∃ (i g cg : Nat), vv = .slice (some ⟨g, 0, none⟩) (idsM kd (l.take i)).length cg ∧ ii = .int .i64 i ∧ i ≤ l.length ∧ OwI wr w.heap.size (.slice (some ⟨g, 0, none⟩) (idsM kd (l.take i)).length cg) (idsM kd (l.take i)) ∧ Below w.heap.size w wr) (fun _ ii _ => l.length - (intOf ii).toNat)
  case atStart => exact ⟨0, w.heap.size, 0, rfl, rfl, by omega, own_emptyI w _ (Nat.le_refl _), (Below.refl _ _).alloc (Nat.le_refl _) _⟩
  case round =>
    obtain ⟨i, g, cg, rfl, rfl, hi, ho, hb⟩ := hrel
    by_cases hlt : i < l.length
    · obtain ⟨e, he⟩ : ∃ e, l[i]? = some e := ⟨_, List.getElem?_eq_getElem hlt⟩
      rcases HE.out with h0 | ⟨b, o, rfl, hbl, h5⟩
      · rw [h0] at hlt; simp at hlt
      have e5 := (h5 i e he).below hb hbl
      have hsn := idsM_snoc (kd := kd) he
      have hat := idsM_at (kd := kd) (l := l) i hi
      obtain ⟨L, hL⟩ : ∃ L, idsM kd (l.take i) = L := ⟨_, rfl⟩
      rw [hL] at ho hsn hat ⊢
      have FO : Hid (OwI wr w.heap.size (.slice (some ⟨g, 0, none⟩) L.length cg) L) := ho
      have FB : Hid (Below w.heap.size w wr) := hb
      have HLi : Hid (idsM kd (l.take i) = L) := hL
      have hlen : L.length ≤ 200 := by have := hat.2.2; omega
      have hbw : b < w.heap.size := hbl
      obtain ⟨_, k1, k2, _, _⟩ := e5
      by_cases hk : e.kd = kd
      · have hkk : (e.kd != kd) = false := by simp [hk]
        obtain ⟨x, hx⟩ : ∃ x, e.id = x := ⟨_, rfl⟩
        rw [hx] at k2
        have FV : Hid (C1 wr b (o + i * 5 + 2) x) := ⟨k2⟩
        have HI : Hid (idsM kd (l.take (i + 1)) = insI x L) := by show idsM kd (l.take (i + 1)) = _; rw [hsn, if_pos hk, hx]
        have hcap := own_cap ho
        clear he h5 hsn hat hL hb ho k2 hk hx HE
        go_wp2_with fail
        go_loopw [7] (fun pp wi => ∃ p : Nat, pp = .int .i64 p ∧ p ≤ L.length ∧ posI L x p = posI L x L.length ∧ OwI wi w.heap.size (.slice (some ⟨g, 0, none⟩) L.length cg) L ∧ C1 wi b (o + i * 5 + 2) x ∧ Below w.heap.size w wi) (fun pp _ => (intOf pp).toNat)
        case atStart => exact ⟨L.length, rfl, Nat.le_refl _, rfl, FO.out, FV.out, FB.out⟩
        case round =>
          obtain ⟨p, rfl, hp, hpp, ho, hv, hb⟩ := hrel
          have FO : Hid (OwI wr w.heap.size (.slice (some ⟨g, 0, none⟩) L.length cg) L) := ho
          have FV : Hid (C1 wr b (o + i * 5 + 2) x) := hv
          have FB : Hid (Below w.heap.size w wr) := hb
          clear ho hv hb
          by_cases hp0 : p = 0
          · have d0 : decide ((0 : Int) < (p : Int)) = false := decide_eq_false (by omega)
            have HPP : Hid (posI L x L.length = p) := by show posI L x L.length = p; rw [← hpp, hp0]; rfl
            have hz : ¬ 0 < p := by omega
            clear hp0 hpp
            go_upto_region 7 with fail
            go_cut [38] from 24 to 40 (fun t wx => t = .bool false ∧ OwI wx w.heap.size (.slice (some ⟨g, 0, none⟩) L.length cg) L ∧ C1 wx b (o + i * 5 + 2) x ∧ Below w.heap.size w wx)
            case first =>
              have FV : Hid (C1 wr.drew b (o + i * 5 + 2) x) := FV.out.below (Below.refl _ _).drew FV.out.lt
              have FO : Hid (OwI wr.drew w.heap.size (.slice (some ⟨g, 0, none⟩) L.length cg) L) := FO.out.drew
              have FB : Hid (Below w.heap.size w wr.drew) := FB.out.drew
              refine wp_region_held_drew (S := (fun _ => True)) (by kernel_rfl) (by (try dsimp only); all_goals trivial) (fun hHeld => ?_)
              obtain ⟨v_1, hw1⟩ : ∃ v_1, v_1 = wr.drew := ⟨_, rfl⟩
              have FV : Hid (C1 v_1 b (o + i * 5 + 2) x) := by rw [hw1]; exact FV.out
              have FO : Hid (OwI v_1 w.heap.size (.slice (some ⟨g, 0, none⟩) L.length cg) L) := by rw [hw1]; exact FO.out
              have FB : Hid (Below w.heap.size w v_1) := by rw [hw1]; exact FB.out
              rw [← hw1]
              clear hw1
              refine tkz 0 rfl ?_
              refine tkz 1 rfl ?_
              refine tkz 2 rfl ?_
              refine tbz 3 rfl ?_
              refine tbz 4 rfl ?_
              refine tbz 5 rfl ?_
              refine tbz 6 rfl ?_
              refine tbz 7 rfl ?_
              refine tbz 8 rfl ?_
              refine tbz 9 rfl ?_
              refine tbz 10 rfl ?_
              refine tbz 11 rfl ?_
              refine tbz 12 rfl ?_
              refine tbz 13 rfl ?_
              refine tkz 14 rfl ?_
              refine wpAnyH_done (by kernel_rfl) ?_ _
              go_wp2_with fail
              go_meet
              case rel => exact ⟨rfl, FO.out, FV.out, FB.out⟩
            case rest =>
            obtain ⟨rfl, ho, hv, hb⟩ := hcut
            have FO : Hid (OwI wc w.heap.size (.slice (some ⟨g, 0, none⟩) L.length cg) L) := ho
            have FV : Hid (C1 wc b (o + i * 5 + 2) x) := hv
            have FB : Hid (Below w.heap.size w wc) := hb
            clear ho hv hb
            have hpl : p ≤ L.length := by omega
            have hc1 := cut_toI g p L.length cg (by omega)
            obtain ⟨d2, D2_, hc2⟩ := cut_fromI g p L.length cg hpl hcap
            have D2 : Hid (p < cg → d2 = ⟨g, p, none⟩) := D2_
            have le1 : (L.take p).length = p := by rw [List.length_take]; omega
            have le2 : (L.drop p).length = L.length - p := List.length_drop ..
            obtain ⟨M, hM⟩ : ∃ M, L.take p ++ [x] ++ L.drop p = M := ⟨_, rfl⟩
            have HM : Hid (L.take p ++ [x] ++ L.drop p = M) := hM
            have HMI : Hid (insI x L = M) := by show insI x L = M; unfold insI; rw [HPP.out, ← hM]; simp
            clear hM D2_
            go_upto_region 9 with fail
            have FV : Hid (C1 wc.drew b (o + i * 5 + 2) x) := FV.out.below (Below.refl _ _).drew FV.out.lt
            have FO : Hid (OwI wc.drew w.heap.size (.slice (some ⟨g, 0, none⟩) L.length cg) L) := FO.out.drew
            have FB : Hid (Below w.heap.size w wc.drew) := FB.out.drew
            have m0 := FV.out.c
            refine wp_region_held_drew (S := (fun w'' => w''.cell? ⟨b, (o + i * 5 + 2), none⟩ = some (.int .i64 x))) (by kernel_rfl) (by (try dsimp only); first | exact m0 | go_keep) (fun hHeld => ?_)
            obtain ⟨v_2, hw1⟩ : ∃ v_2, v_2 = wc.drew := ⟨_, rfl⟩
            have FV : Hid (C1 v_2 b (o + i * 5 + 2) x) := by rw [hw1]; exact FV.out
            have FO : Hid (OwI v_2 w.heap.size (.slice (some ⟨g, 0, none⟩) L.length cg) L) := by rw [hw1]; exact FO.out
            have FB : Hid (Below w.heap.size w v_2) := by rw [hw1]; exact FB.out
            rw [← hw1] at hHeld ⊢
            clear hw1
            have m0 := FV.out.c
            refine tkz 1 rfl ?_
            refine tkz 2 rfl ?_
            refine tkz 3 rfl ?_
            refine tkz 5 rfl ?_
            refine tkz 6 rfl ?_
            refine tkz 7 rfl ?_
            refine tkz 8 rfl ?_
            refine tkz 9 rfl ?_
            refine tkz 12 rfl ?_
            refine tkz 13 rfl ?_
            refine tkz 14 rfl ?_
            refine wpAnyH_ready (rs := [0, 10]) (by kernel_rfl) (by simp) ?_
            refine (AllReadyH.cons rfl (fun K hK => ?_) (AllReadyH.cons rfl (fun K hK => ?_) AllReadyH.nil))
            · refine step_i rfl ?_
              go_simp
              obtain ⟨ea, hea⟩ : ∃ ea, ea = v_2.heap.size := ⟨_, rfl⟩
              have lea1 : b < ea := by rw [hea]; exact FV.out.lt
              have lea2 : g < ea := by rw [hea]; exact (FO.out.lt g rfl).2
              have lea3 : w.heap.size ≤ ea := by rw [hea]; exact FB.out.size
              first | (have lx_ : nb < ea := by rw [hea]; exact FN.out.lt) | skip
              obtain ⟨v_3, hw2⟩ : ∃ v_3, v_3 = v_2.alloc (.cells #[] 2) := ⟨_, rfl⟩
              have FV : Hid (C1 v_3 b (o + i * 5 + 2) x) := by rw [hw2]; exact FV.out.alloc _
              have FO : Hid (OwI v_3 w.heap.size (.slice (some ⟨g, 0, none⟩) L.length cg) L) := by rw [hw2]; exact FO.out.alloc _
              have FB : Hid (Below w.heap.size w v_3) := by rw [hw2]; exact FB.out.alloc FB.out.size _
              have FE : Hid (OwI v_3 ea (.slice (some ⟨ea, 0, none⟩) 0 0) []) := by rw [hw2, hea]; exact own_emptyI v_2 _ (Nat.le_refl _)
              rw [← hw2, ← hea]
              clear hw2 hea
              have m0 := FV.out.c
              refine hK.out _ _ (by (try dsimp only); first | exact m0 | go_keep) (fun hHeld => ?_)
              clear hK K
              try simp only [Act.put, List.getElem_toArray, List.getElem_cons_succ, List.getElem_cons_zero, List.setIfInBounds_toArray, List.set_cons_zero, List.set_cons_succ]
              refine wpAnyH_ready (rs := [4, 10]) (by kernel_rfl) (by simp) ?_
              refine (AllReadyH.cons rfl (fun K hK => ?_) (AllReadyH.cons rfl (fun K hK => ?_) AllReadyH.nil))
              · refine step_i rfl ?_
                refine wp_append_i ea ea 0 0 [] (L.take p) rfl FE.out ⟨g, 0, none⟩ cg (by rw [le1]; rfl) (fun hpos => ⟨g, 0, rfl, fun i p hp => by rw [Nat.zero_add]; exact FO.out.cell (take_getI hp)⟩) (by simp <;> omega) (Nat.le_of_lt ((FE.out.lt ea rfl).2)) ?_
                intro g1 c1 v_4 ho hg
                rw [List.nil_append] at ho
                have FV : Hid (C1 v_4 b (o + i * 5 + 2) x) := FV.out.grown hg (fun e => by have e2 := Option.some.inj e; omega)
                have FO : Hid (OwI v_4 w.heap.size (.slice (some ⟨g, 0, none⟩) L.length cg) L) := FO.out.kept hg (Or.inr (fun e => by have e2 : g = ea := Option.some.inj e; omega))
                have FB : Hid (Below w.heap.size w v_4) := FB.out.grown hg FB.out.size (fun j hj => by have e2 : ea = j := Option.some.inj hj; omega)
                have FA : Hid (OwI v_4 ea (.slice (some ⟨g1, 0, none⟩) (L.take p).length c1) (L.take p)) := ho
                have lg1 : ea ≤ g1 := (FA.out.lt g1 rfl).1
                rw [List.nil_append]
                clear ho hg
                have m0 := FV.out.c
                refine hK.out _ _ (by (try dsimp only); first | exact m0 | go_keep) (fun hHeld => ?_)
                clear hK K
                try simp only [Act.put, List.getElem_toArray, List.getElem_cons_succ, List.getElem_cons_zero, List.setIfInBounds_toArray, List.set_cons_zero, List.set_cons_succ]
                refine wpAnyH_ready (rs := [10]) (by kernel_rfl) (by simp) ?_
                refine (AllReadyH.cons rfl (fun K hK => ?_) AllReadyH.nil)
                refine step_i rfl ?_
                go_simp
                obtain ⟨nb, hnb⟩ : ∃ nb, nb = v_4.heap.size := ⟨_, rfl⟩
                first | (have ly_ : ea < nb := by rw [hnb]; exact (FE.out.lt ea rfl).2) | (have ly_ : g1 < nb := by rw [hnb]; exact (FA.out.lt g1 rfl).2) | skip
                obtain ⟨v_5, hw2⟩ : ∃ v_5, v_5 = v_4.alloc (.cells #[.int .i64 x] 2) := ⟨_, rfl⟩
                have FV : Hid (C1 v_5 b (o + i * 5 + 2) x) := by rw [hw2]; exact FV.out.alloc _
                have FO : Hid (OwI v_5 w.heap.size (.slice (some ⟨g, 0, none⟩) L.length cg) L) := by rw [hw2]; exact FO.out.alloc _
                have FB : Hid (Below w.heap.size w v_5) := by rw [hw2]; exact FB.out.alloc FB.out.size _
                have FA : Hid (OwI v_5 ea (.slice (some ⟨g1, 0, none⟩) (L.take p).length c1) (L.take p)) := by rw [hw2]; exact FA.out.alloc _
                have FN : Hid (C1 v_5 nb 0 x) := by rw [hw2]; exact ⟨by rw [hnb]; simp⟩
                rw [← hw2, ← hnb]
                clear hw2 hnb
                have m0 := FV.out.c
                refine hK.out _ _ (by (try dsimp only); first | exact m0 | go_keep) (fun hHeld => ?_)
                clear hK K
                try simp only [Act.put, List.getElem_toArray, List.getElem_cons_succ, List.getElem_cons_zero, List.setIfInBounds_toArray, List.set_cons_zero, List.set_cons_succ]
                refine wpAnyH_ready (rs := [11]) (by kernel_rfl) (by simp) ?_
                refine (AllReadyH.cons rfl (fun K hK => ?_) AllReadyH.nil)
                refine step_i rfl ?_
                refine wp_append_i ea g1 (L.take p).length c1 (L.take p) [x] (by first | rfl | (rw [le1]; rfl)) FA.out ⟨nb, 0, none⟩ 1 rfl (fun _ => ⟨nb, 0, rfl, fun i p hp => by cases i with | zero => (simp at hp; subst hp; exact FN.out.c) | succ i => simp at hp⟩) (by simp <;> omega) (by have := (FA.out.lt g1 rfl).2; omega) ?_
                intro g2 c2 v_6 ho hg
                have FV : Hid (C1 v_6 b (o + i * 5 + 2) x) := FV.out.grown hg (fun e => by have e2 := Option.some.inj e; omega)
                have FO : Hid (OwI v_6 w.heap.size (.slice (some ⟨g, 0, none⟩) L.length cg) L) := FO.out.kept hg (Or.inr (fun e => by have e2 : g = g1 := Option.some.inj e; omega))
                have FB : Hid (Below w.heap.size w v_6) := FB.out.grown hg FB.out.size (fun j hj => by have e2 : g1 = j := Option.some.inj hj; omega)
                have FD : Hid (OwI v_6 ea (.slice (some ⟨g2, 0, none⟩) (L.take p ++ [x]).length c2) (L.take p ++ [x])) := ho
                have lg2 : ea ≤ g2 := (FD.out.lt g2 rfl).1
                clear ho hg
                have m0 := FV.out.c
                refine hK.out _ _ (by (try dsimp only); first | exact m0 | go_keep) (fun hHeld => ?_)
                clear hK K
                try simp only [Act.put, List.getElem_toArray, List.getElem_cons_succ, List.getElem_cons_zero, List.setIfInBounds_toArray, List.set_cons_zero, List.set_cons_succ]
                refine wpAnyH_ready (rs := [15]) (by kernel_rfl) (by simp) ?_
                refine (AllReadyH.cons rfl (fun K hK => ?_) AllReadyH.nil)
                refine step_i rfl ?_
                refine wp_append_i ea g2 (L.take p ++ [x]).length c2 (L.take p ++ [x]) (L.drop p) rfl FD.out d2 (cg - p) (by rw [le2]; rfl) (fun hpos => ⟨g, p, D2.out (by omega), fun i q hq => by rw [List.getElem?_drop] at hq; exact FO.out.cell hq⟩) (by rw [List.length_append, le1, le2]; simp; omega) (by have := (FD.out.lt g2 rfl).2; omega) ?_
                intro g3 c3 v_7 ho hg
                rw [HM.out] at ho ⊢
                have FV : Hid (C1 v_7 b (o + i * 5 + 2) x) := FV.out.grown hg (fun e => by have e2 := Option.some.inj e; omega)
                have FO : Hid (OwI v_7 w.heap.size (.slice (some ⟨g, 0, none⟩) L.length cg) L) := FO.out.kept hg (Or.inr (fun e => by have e2 : g = g2 := Option.some.inj e; omega))
                have FB : Hid (Below w.heap.size w v_7) := FB.out.grown hg FB.out.size (fun j hj => by have e2 : g2 = j := Option.some.inj hj; omega)
                have FQ : Hid (OwI v_7 ea (.slice (some ⟨g3, 0, none⟩) M.length c3) M) := ho
                clear ho hg
                have m0 := FV.out.c
                refine hK.out _ _ (by (try dsimp only); first | exact m0 | go_keep) (fun hHeld => ?_)
                clear hK K
                try simp only [Act.put, List.getElem_toArray, List.getElem_cons_succ, List.getElem_cons_zero, List.setIfInBounds_toArray, List.set_cons_zero, List.set_cons_succ]
                refine tkz 16 rfl ?_
                refine wpAnyH_done (by kernel_rfl) ?_ _
                go_wp2_with fail
                go_roundw
                case rel => exact ⟨i + 1, g3, c3, by rw [HI.out, HMI.out], by simp, by omega, by rw [HI.out, HMI.out]; exact FQ.out.base lea3, FB.out⟩
                case measure => simp [intOf]; omega
              · refine step_i rfl ?_
                go_simp
                obtain ⟨nb, hnb⟩ : ∃ nb, nb = v_3.heap.size := ⟨_, rfl⟩
                first | (have ly_ : ea < nb := by rw [hnb]; exact (FE.out.lt ea rfl).2) | (have ly_ : g1 < nb := by rw [hnb]; exact (FA.out.lt g1 rfl).2) | skip
                obtain ⟨v_8, hw2⟩ : ∃ v_8, v_8 = v_3.alloc (.cells #[.int .i64 x] 2) := ⟨_, rfl⟩
                have FV : Hid (C1 v_8 b (o + i * 5 + 2) x) := by rw [hw2]; exact FV.out.alloc _
                have FO : Hid (OwI v_8 w.heap.size (.slice (some ⟨g, 0, none⟩) L.length cg) L) := by rw [hw2]; exact FO.out.alloc _
                have FB : Hid (Below w.heap.size w v_8) := by rw [hw2]; exact FB.out.alloc FB.out.size _
                have FE : Hid (OwI v_8 ea (.slice (some ⟨ea, 0, none⟩) 0 0) []) := by rw [hw2]; exact FE.out.alloc _
                have FN : Hid (C1 v_8 nb 0 x) := by rw [hw2]; exact ⟨by rw [hnb]; simp⟩
                rw [← hw2, ← hnb]
                clear hw2 hnb
                have m0 := FV.out.c
                refine hK.out _ _ (by (try dsimp only); first | exact m0 | go_keep) (fun hHeld => ?_)
                clear hK K
                try simp only [Act.put, List.getElem_toArray, List.getElem_cons_succ, List.getElem_cons_zero, List.setIfInBounds_toArray, List.set_cons_zero, List.set_cons_succ]
                refine wpAnyH_ready (rs := [4]) (by kernel_rfl) (by simp) ?_
                refine (AllReadyH.cons rfl (fun K hK => ?_) AllReadyH.nil)
                refine step_i rfl ?_
                refine wp_append_i ea ea 0 0 [] (L.take p) rfl FE.out ⟨g, 0, none⟩ cg (by rw [le1]; rfl) (fun hpos => ⟨g, 0, rfl, fun i p hp => by rw [Nat.zero_add]; exact FO.out.cell (take_getI hp)⟩) (by simp <;> omega) (Nat.le_of_lt ((FE.out.lt ea rfl).2)) ?_
                intro g1 c1 v_9 ho hg
                rw [List.nil_append] at ho
                have FV : Hid (C1 v_9 b (o + i * 5 + 2) x) := FV.out.grown hg (fun e => by have e2 := Option.some.inj e; omega)
                have FO : Hid (OwI v_9 w.heap.size (.slice (some ⟨g, 0, none⟩) L.length cg) L) := FO.out.kept hg (Or.inr (fun e => by have e2 : g = ea := Option.some.inj e; omega))
                have FB : Hid (Below w.heap.size w v_9) := FB.out.grown hg FB.out.size (fun j hj => by have e2 : ea = j := Option.some.inj hj; omega)
                have FN : Hid (C1 v_9 nb 0 x) := FN.out.grown hg (fun e => by have e2 := Option.some.inj e; omega)
                have FA : Hid (OwI v_9 ea (.slice (some ⟨g1, 0, none⟩) (L.take p).length c1) (L.take p)) := ho
                have lg1 : ea ≤ g1 := (FA.out.lt g1 rfl).1
                rw [List.nil_append]
                clear ho hg
                have m0 := FV.out.c
                refine hK.out _ _ (by (try dsimp only); first | exact m0 | go_keep) (fun hHeld => ?_)
                clear hK K
                try simp only [Act.put, List.getElem_toArray, List.getElem_cons_succ, List.getElem_cons_zero, List.setIfInBounds_toArray, List.set_cons_zero, List.set_cons_succ]
                refine wpAnyH_ready (rs := [11]) (by kernel_rfl) (by simp) ?_
                refine (AllReadyH.cons rfl (fun K hK => ?_) AllReadyH.nil)
                refine step_i rfl ?_
                refine wp_append_i ea g1 (L.take p).length c1 (L.take p) [x] (by first | rfl | (rw [le1]; rfl)) FA.out ⟨nb, 0, none⟩ 1 rfl (fun _ => ⟨nb, 0, rfl, fun i p hp => by cases i with | zero => (simp at hp; subst hp; exact FN.out.c) | succ i => simp at hp⟩) (by simp <;> omega) (by have := (FA.out.lt g1 rfl).2; omega) ?_
                intro g2 c2 v_10 ho hg
                have FV : Hid (C1 v_10 b (o + i * 5 + 2) x) := FV.out.grown hg (fun e => by have e2 := Option.some.inj e; omega)
                have FO : Hid (OwI v_10 w.heap.size (.slice (some ⟨g, 0, none⟩) L.length cg) L) := FO.out.kept hg (Or.inr (fun e => by have e2 : g = g1 := Option.some.inj e; omega))
                have FB : Hid (Below w.heap.size w v_10) := FB.out.grown hg FB.out.size (fun j hj => by have e2 : g1 = j := Option.some.inj hj; omega)
                have FD : Hid (OwI v_10 ea (.slice (some ⟨g2, 0, none⟩) (L.take p ++ [x]).length c2) (L.take p ++ [x])) := ho
                have lg2 : ea ≤ g2 := (FD.out.lt g2 rfl).1
                clear ho hg
                have m0 := FV.out.c
                refine hK.out _ _ (by (try dsimp only); first | exact m0 | go_keep) (fun hHeld => ?_)
                clear hK K
                try simp only [Act.put, List.getElem_toArray, List.getElem_cons_succ, List.getElem_cons_zero, List.setIfInBounds_toArray, List.set_cons_zero, List.set_cons_succ]
                refine wpAnyH_ready (rs := [15]) (by kernel_rfl) (by simp) ?_
                refine (AllReadyH.cons rfl (fun K hK => ?_) AllReadyH.nil)
                refine step_i rfl ?_
                refine wp_append_i ea g2 (L.take p ++ [x]).length c2 (L.take p ++ [x]) (L.drop p) rfl FD.out d2 (cg - p) (by rw [le2]; rfl) (fun hpos => ⟨g, p, D2.out (by omega), fun i q hq => by rw [List.getElem?_drop] at hq; exact FO.out.cell hq⟩) (by rw [List.length_append, le1, le2]; simp; omega) (by have := (FD.out.lt g2 rfl).2; omega) ?_
                intro g3 c3 v_11 ho hg
                rw [HM.out] at ho ⊢
                have FV : Hid (C1 v_11 b (o + i * 5 + 2) x) := FV.out.grown hg (fun e => by have e2 := Option.some.inj e; omega)
                have FO : Hid (OwI v_11 w.heap.size (.slice (some ⟨g, 0, none⟩) L.length cg) L) := FO.out.kept hg (Or.inr (fun e => by have e2 : g = g2 := Option.some.inj e; omega))
                have FB : Hid (Below w.heap.size w v_11) := FB.out.grown hg FB.out.size (fun j hj => by have e2 : g2 = j := Option.some.inj hj; omega)
                have FQ : Hid (OwI v_11 ea (.slice (some ⟨g3, 0, none⟩) M.length c3) M) := ho
                clear ho hg
                have m0 := FV.out.c
                refine hK.out _ _ (by (try dsimp only); first | exact m0 | go_keep) (fun hHeld => ?_)
                clear hK K
                try simp only [Act.put, List.getElem_toArray, List.getElem_cons_succ, List.getElem_cons_zero, List.setIfInBounds_toArray, List.set_cons_zero, List.set_cons_succ]
                refine tkz 16 rfl ?_
                refine wpAnyH_done (by kernel_rfl) ?_ _
                go_wp2_with fail
                go_roundw
                case rel => exact ⟨i + 1, g3, c3, by rw [HI.out, HMI.out], by simp, by omega, by rw [HI.out, HMI.out]; exact FQ.out.base lea3, FB.out⟩
                case measure => simp [intOf]; omega
            · refine step_i rfl ?_
              go_simp
              obtain ⟨nb, hnb⟩ : ∃ nb, nb = v_2.heap.size := ⟨_, rfl⟩
              first | (have ly_ : ea < nb := by rw [hnb]; exact (FE.out.lt ea rfl).2) | (have ly_ : g1 < nb := by rw [hnb]; exact (FA.out.lt g1 rfl).2) | skip
              obtain ⟨v_12, hw2⟩ : ∃ v_12, v_12 = v_2.alloc (.cells #[.int .i64 x] 2) := ⟨_, rfl⟩
              have FV : Hid (C1 v_12 b (o + i * 5 + 2) x) := by rw [hw2]; exact FV.out.alloc _
              have FO : Hid (OwI v_12 w.heap.size (.slice (some ⟨g, 0, none⟩) L.length cg) L) := by rw [hw2]; exact FO.out.alloc _
              have FB : Hid (Below w.heap.size w v_12) := by rw [hw2]; exact FB.out.alloc FB.out.size _
              have FN : Hid (C1 v_12 nb 0 x) := by rw [hw2]; exact ⟨by rw [hnb]; simp⟩
              rw [← hw2, ← hnb]
              clear hw2 hnb
              have m0 := FV.out.c
              refine hK.out _ _ (by (try dsimp only); first | exact m0 | go_keep) (fun hHeld => ?_)
              clear hK K
              try simp only [Act.put, List.getElem_toArray, List.getElem_cons_succ, List.getElem_cons_zero, List.setIfInBounds_toArray, List.set_cons_zero, List.set_cons_succ]
              refine wpAnyH_ready (rs := [0]) (by kernel_rfl) (by simp) ?_
              refine (AllReadyH.cons rfl (fun K hK => ?_) AllReadyH.nil)
              refine step_i rfl ?_
              go_simp
              obtain ⟨ea, hea⟩ : ∃ ea, ea = v_12.heap.size := ⟨_, rfl⟩
              have lea1 : b < ea := by rw [hea]; exact FV.out.lt
              have lea2 : g < ea := by rw [hea]; exact (FO.out.lt g rfl).2
              have lea3 : w.heap.size ≤ ea := by rw [hea]; exact FB.out.size
              first | (have lx_ : nb < ea := by rw [hea]; exact FN.out.lt) | skip
              obtain ⟨v_13, hw2⟩ : ∃ v_13, v_13 = v_12.alloc (.cells #[] 2) := ⟨_, rfl⟩
              have FV : Hid (C1 v_13 b (o + i * 5 + 2) x) := by rw [hw2]; exact FV.out.alloc _
              have FO : Hid (OwI v_13 w.heap.size (.slice (some ⟨g, 0, none⟩) L.length cg) L) := by rw [hw2]; exact FO.out.alloc _
              have FB : Hid (Below w.heap.size w v_13) := by rw [hw2]; exact FB.out.alloc FB.out.size _
              have FN : Hid (C1 v_13 nb 0 x) := by rw [hw2]; exact FN.out.alloc _
              have FE : Hid (OwI v_13 ea (.slice (some ⟨ea, 0, none⟩) 0 0) []) := by rw [hw2, hea]; exact own_emptyI v_12 _ (Nat.le_refl _)
              rw [← hw2, ← hea]
              clear hw2 hea
              have m0 := FV.out.c
              refine hK.out _ _ (by (try dsimp only); first | exact m0 | go_keep) (fun hHeld => ?_)
              clear hK K
              try simp only [Act.put, List.getElem_toArray, List.getElem_cons_succ, List.getElem_cons_zero, List.setIfInBounds_toArray, List.set_cons_zero, List.set_cons_succ]
              refine wpAnyH_ready (rs := [4]) (by kernel_rfl) (by simp) ?_
              refine (AllReadyH.cons rfl (fun K hK => ?_) AllReadyH.nil)
              refine step_i rfl ?_
              refine wp_append_i ea ea 0 0 [] (L.take p) rfl FE.out ⟨g, 0, none⟩ cg (by rw [le1]; rfl) (fun hpos => ⟨g, 0, rfl, fun i p hp => by rw [Nat.zero_add]; exact FO.out.cell (take_getI hp)⟩) (by simp <;> omega) (Nat.le_of_lt ((FE.out.lt ea rfl).2)) ?_
              intro g1 c1 v_14 ho hg
              rw [List.nil_append] at ho
              have FV : Hid (C1 v_14 b (o + i * 5 + 2) x) := FV.out.grown hg (fun e => by have e2 := Option.some.inj e; omega)
              have FO : Hid (OwI v_14 w.heap.size (.slice (some ⟨g, 0, none⟩) L.length cg) L) := FO.out.kept hg (Or.inr (fun e => by have e2 : g = ea := Option.some.inj e; omega))
              have FB : Hid (Below w.heap.size w v_14) := FB.out.grown hg FB.out.size (fun j hj => by have e2 : ea = j := Option.some.inj hj; omega)
              have FN : Hid (C1 v_14 nb 0 x) := FN.out.grown hg (fun e => by have e2 := Option.some.inj e; omega)
              have FA : Hid (OwI v_14 ea (.slice (some ⟨g1, 0, none⟩) (L.take p).length c1) (L.take p)) := ho
              have lg1 : ea ≤ g1 := (FA.out.lt g1 rfl).1
              rw [List.nil_append]
              clear ho hg
              have m0 := FV.out.c
              refine hK.out _ _ (by (try dsimp only); first | exact m0 | go_keep) (fun hHeld => ?_)
              clear hK K
              try simp only [Act.put, List.getElem_toArray, List.getElem_cons_succ, List.getElem_cons_zero, List.setIfInBounds_toArray, List.set_cons_zero, List.set_cons_succ]
              refine wpAnyH_ready (rs := [11]) (by kernel_rfl) (by simp) ?_
              refine (AllReadyH.cons rfl (fun K hK => ?_) AllReadyH.nil)
              refine step_i rfl ?_
              refine wp_append_i ea g1 (L.take p).length c1 (L.take p) [x] (by first | rfl | (rw [le1]; rfl)) FA.out ⟨nb, 0, none⟩ 1 rfl (fun _ => ⟨nb, 0, rfl, fun i p hp => by cases i with | zero => (simp at hp; subst hp; exact FN.out.c) | succ i => simp at hp⟩) (by simp <;> omega) (by have := (FA.out.lt g1 rfl).2; omega) ?_
              intro g2 c2 v_15 ho hg
              have FV : Hid (C1 v_15 b (o + i * 5 + 2) x) := FV.out.grown hg (fun e => by have e2 := Option.some.inj e; omega)
              have FO : Hid (OwI v_15 w.heap.size (.slice (some ⟨g, 0, none⟩) L.length cg) L) := FO.out.kept hg (Or.inr (fun e => by have e2 : g = g1 := Option.some.inj e; omega))
              have FB : Hid (Below w.heap.size w v_15) := FB.out.grown hg FB.out.size (fun j hj => by have e2 : g1 = j := Option.some.inj hj; omega)
              have FD : Hid (OwI v_15 ea (.slice (some ⟨g2, 0, none⟩) (L.take p ++ [x]).length c2) (L.take p ++ [x])) := ho
              have lg2 : ea ≤ g2 := (FD.out.lt g2 rfl).1
              clear ho hg
              have m0 := FV.out.c
              refine hK.out _ _ (by (try dsimp only); first | exact m0 | go_keep) (fun hHeld => ?_)
              clear hK K
              try simp only [Act.put, List.getElem_toArray, List.getElem_cons_succ, List.getElem_cons_zero, List.setIfInBounds_toArray, List.set_cons_zero, List.set_cons_succ]
              refine wpAnyH_ready (rs := [15]) (by kernel_rfl) (by simp) ?_
              refine (AllReadyH.cons rfl (fun K hK => ?_) AllReadyH.nil)
              refine step_i rfl ?_
              refine wp_append_i ea g2 (L.take p ++ [x]).length c2 (L.take p ++ [x]) (L.drop p) rfl FD.out d2 (cg - p) (by rw [le2]; rfl) (fun hpos => ⟨g, p, D2.out (by omega), fun i q hq => by rw [List.getElem?_drop] at hq; exact FO.out.cell hq⟩) (by rw [List.length_append, le1, le2]; simp; omega) (by have := (FD.out.lt g2 rfl).2; omega) ?_
              intro g3 c3 v_16 ho hg
              rw [HM.out] at ho ⊢
              have FV : Hid (C1 v_16 b (o + i * 5 + 2) x) := FV.out.grown hg (fun e => by have e2 := Option.some.inj e; omega)
              have FO : Hid (OwI v_16 w.heap.size (.slice (some ⟨g, 0, none⟩) L.length cg) L) := FO.out.kept hg (Or.inr (fun e => by have e2 : g = g2 := Option.some.inj e; omega))
              have FB : Hid (Below w.heap.size w v_16) := FB.out.grown hg FB.out.size (fun j hj => by have e2 : g2 = j := Option.some.inj hj; omega)
              have FQ : Hid (OwI v_16 ea (.slice (some ⟨g3, 0, none⟩) M.length c3) M) := ho
              clear ho hg
              have m0 := FV.out.c
              refine hK.out _ _ (by (try dsimp only); first | exact m0 | go_keep) (fun hHeld => ?_)
              clear hK K
              try simp only [Act.put, List.getElem_toArray, List.getElem_cons_succ, List.getElem_cons_zero, List.setIfInBounds_toArray, List.set_cons_zero, List.set_cons_succ]
              refine tkz 16 rfl ?_
              refine wpAnyH_done (by kernel_rfl) ?_ _
              go_wp2_with fail
              go_roundw
              case rel => exact ⟨i + 1, g3, c3, by rw [HI.out, HMI.out], by simp, by omega, by rw [HI.out, HMI.out]; exact FQ.out.base lea3, FB.out⟩
              case measure => simp [intOf]; omega
          · obtain ⟨k, hk⟩ : ∃ k, p = k + 1 := ⟨p - 1, by omega⟩
            have d0 : decide ((0 : Int) < (p : Int)) = true := decide_eq_true (by omega)
            have hz : 0 < p := by omega
            have ek : IntKind.i64.wrap ((p : Int) - 1) = (k : Int) := by rw [show (p : Int) - 1 = (k : Int) by omega]; exact IntWalk.i64_in _ (by omega)
            have ek2 : wrap64 ((p : Int) - 1) = (k : Int) := by unfold wrap64; omega
            have ek3 : (p : Int) - 1 = (k : Int) := by omega
            have wk : IntKind.i64.wrap (k : Int) = (k : Int) := IntWalk.i64_in _ (by omega)
            have hkl : k < L.length := by omega
            obtain ⟨y, hy⟩ : ∃ y, L[k]? = some y := ⟨_, List.getElem?_eq_getElem hkl⟩
            have hyd : L.getD k 0 = y := by rw [List.getD_eq_getElem?_getD, hy]; rfl
            have hq : posI L x p = if x < y then posI L x k else k + 1 := by rw [hk]; show (if x < L.getD k 0 then posI L x k else k + 1) = _; rw [hyd]
            have FY : Hid (C1 wr g k y) := ⟨FO.out.cell hy⟩
            have HPK : Hid (p = k + 1) := hk
            by_cases c : x < y
            · have d : decide (x < y) = true := decide_eq_true c
              rw [if_pos c] at hq
              have HPP : Hid (posI L x k = posI L x L.length) := hq.symm.trans hpp
              clear hy hyd hq hpp c hk hp0
              go_upto_region 7 with fail
              go_cut [38] from 24 to 40 (fun t wx => t = .bool true ∧ OwI wx w.heap.size (.slice (some ⟨g, 0, none⟩) L.length cg) L ∧ C1 wx b (o + i * 5 + 2) x ∧ Below w.heap.size w wx)
              case first =>
                have FV : Hid (C1 wr.drew b (o + i * 5 + 2) x) := FV.out.below (Below.refl _ _).drew FV.out.lt
                have FY : Hid (C1 wr.drew g k y) := FY.out.below (Below.refl _ _).drew FY.out.lt
                have FO : Hid (OwI wr.drew w.heap.size (.slice (some ⟨g, 0, none⟩) L.length cg) L) := FO.out.drew
                have FB : Hid (Below w.heap.size w wr.drew) := FB.out.drew
                have m0 := FV.out.c
                have m1 := FY.out.c
                refine wp_region_held_drew (S := (fun w'' => w''.cell? ⟨b, (o + i * 5 + 2), none⟩ = some (.int .i64 x) ∧ w''.cell? ⟨g, k, none⟩ = some (.int .i64 y))) (by kernel_rfl) (by (try dsimp only); first | exact ⟨m0, m1⟩ | go_keep) (fun hHeld => ?_)
                obtain ⟨v_17, hw1⟩ : ∃ v_17, v_17 = wr.drew := ⟨_, rfl⟩
                have FV : Hid (C1 v_17 b (o + i * 5 + 2) x) := by rw [hw1]; exact FV.out
                have FY : Hid (C1 v_17 g k y) := by rw [hw1]; exact FY.out
                have FO : Hid (OwI v_17 w.heap.size (.slice (some ⟨g, 0, none⟩) L.length cg) L) := by rw [hw1]; exact FO.out
                have FB : Hid (Below w.heap.size w v_17) := by rw [hw1]; exact FB.out
                rw [← hw1] at hHeld ⊢
                clear hw1
                have m0 := FV.out.c
                have m1 := FY.out.c
                refine tkz 0 rfl ?_
                refine tkz 1 rfl ?_
                refine tkz 2 rfl ?_
                refine tkz 3 rfl ?_
                refine tkz 4 rfl ?_
                refine tkz 5 rfl ?_
                refine tkz 6 rfl ?_
                refine tkz 7 rfl ?_
                refine tkz 8 rfl ?_
                refine tkz 9 rfl ?_
                refine tkz 10 rfl ?_
                refine tkz 11 rfl ?_
                refine tkz 12 rfl ?_
                refine tkz 13 rfl ?_
                refine tkz 14 rfl ?_
                refine wpAnyH_done (by kernel_rfl) ?_ _
                go_wp2_with fail
                go_meet
                case rel => exact ⟨rfl, FO.out, FV.out, FB.out⟩
              case rest =>
              obtain ⟨rfl, ho, hv, hb⟩ := hcut
              have FO : Hid (OwI wc w.heap.size (.slice (some ⟨g, 0, none⟩) L.length cg) L) := ho
              have FV : Hid (C1 wc b (o + i * 5 + 2) x) := hv
              have FB : Hid (Below w.heap.size w wc) := hb
              clear ho hv hb
              go_wp2_with fail
              go_roundw
              case rel => exact ⟨k, by simp, by omega, HPP.out, FO.out, FV.out, FB.out⟩
              case measure => (have := HPK.out; simp [intOf]; omega)
            · have d : decide (x < y) = false := decide_eq_false c
              rw [if_neg c] at hq
              have HPP : Hid (posI L x L.length = p) := hpp.symm.trans (hq.trans hk.symm)
              clear hy hyd hq hpp c hk hp0
              go_upto_region 7 with fail
              go_cut [38] from 24 to 40 (fun t wx => t = .bool false ∧ OwI wx w.heap.size (.slice (some ⟨g, 0, none⟩) L.length cg) L ∧ C1 wx b (o + i * 5 + 2) x ∧ Below w.heap.size w wx)
              case first =>
                have FV : Hid (C1 wr.drew b (o + i * 5 + 2) x) := FV.out.below (Below.refl _ _).drew FV.out.lt
                have FY : Hid (C1 wr.drew g k y) := FY.out.below (Below.refl _ _).drew FY.out.lt
                have FO : Hid (OwI wr.drew w.heap.size (.slice (some ⟨g, 0, none⟩) L.length cg) L) := FO.out.drew
                have FB : Hid (Below w.heap.size w wr.drew) := FB.out.drew
                have m0 := FV.out.c
                have m1 := FY.out.c
                refine wp_region_held_drew (S := (fun w'' => w''.cell? ⟨b, (o + i * 5 + 2), none⟩ = some (.int .i64 x) ∧ w''.cell? ⟨g, k, none⟩ = some (.int .i64 y))) (by kernel_rfl) (by (try dsimp only); first | exact ⟨m0, m1⟩ | go_keep) (fun hHeld => ?_)
                obtain ⟨v_18, hw1⟩ : ∃ v_18, v_18 = wr.drew := ⟨_, rfl⟩
                have FV : Hid (C1 v_18 b (o + i * 5 + 2) x) := by rw [hw1]; exact FV.out
                have FY : Hid (C1 v_18 g k y) := by rw [hw1]; exact FY.out
                have FO : Hid (OwI v_18 w.heap.size (.slice (some ⟨g, 0, none⟩) L.length cg) L) := by rw [hw1]; exact FO.out
                have FB : Hid (Below w.heap.size w v_18) := by rw [hw1]; exact FB.out
                rw [← hw1] at hHeld ⊢
                clear hw1
                have m0 := FV.out.c
                have m1 := FY.out.c
                refine tkz 0 rfl ?_
                refine tkz 1 rfl ?_
                refine tkz 2 rfl ?_
                refine tkz 3 rfl ?_
                refine tkz 4 rfl ?_
                refine tkz 5 rfl ?_
                refine tkz 6 rfl ?_
                refine tkz 7 rfl ?_
                refine tkz 8 rfl ?_
                refine tkz 9 rfl ?_
                refine tkz 10 rfl ?_
                refine tkz 11 rfl ?_
                refine tkz 12 rfl ?_
                refine tkz 13 rfl ?_
                refine tkz 14 rfl ?_
                refine wpAnyH_done (by kernel_rfl) ?_ _
                go_wp2_with fail
                go_meet
                case rel => exact ⟨rfl, FO.out, FV.out, FB.out⟩
              case rest =>
              obtain ⟨rfl, ho, hv, hb⟩ := hcut
              have FO : Hid (OwI wc w.heap.size (.slice (some ⟨g, 0, none⟩) L.length cg) L) := ho
              have FV : Hid (C1 wc b (o + i * 5 + 2) x) := hv
              have FB : Hid (Below w.heap.size w wc) := hb
              clear ho hv hb
              have hpl : p ≤ L.length := by omega
              have hc1 := cut_toI g p L.length cg (by omega)
              obtain ⟨d2, D2_, hc2⟩ := cut_fromI g p L.length cg hpl hcap
              have D2 : Hid (p < cg → d2 = ⟨g, p, none⟩) := D2_
              have le1 : (L.take p).length = p := by rw [List.length_take]; omega
              have le2 : (L.drop p).length = L.length - p := List.length_drop ..
              obtain ⟨M, hM⟩ : ∃ M, L.take p ++ [x] ++ L.drop p = M := ⟨_, rfl⟩
              have HM : Hid (L.take p ++ [x] ++ L.drop p = M) := hM
              have HMI : Hid (insI x L = M) := by show insI x L = M; unfold insI; rw [HPP.out, ← hM]; simp
              clear hM D2_
              go_upto_region 9 with fail
              have FV : Hid (C1 wc.drew b (o + i * 5 + 2) x) := FV.out.below (Below.refl _ _).drew FV.out.lt
              have FO : Hid (OwI wc.drew w.heap.size (.slice (some ⟨g, 0, none⟩) L.length cg) L) := FO.out.drew
              have FB : Hid (Below w.heap.size w wc.drew) := FB.out.drew
              have m0 := FV.out.c
              refine wp_region_held_drew (S := (fun w'' => w''.cell? ⟨b, (o + i * 5 + 2), none⟩ = some (.int .i64 x))) (by kernel_rfl) (by (try dsimp only); first | exact m0 | go_keep) (fun hHeld => ?_)
              obtain ⟨v_19, hw1⟩ : ∃ v_19, v_19 = wc.drew := ⟨_, rfl⟩
              have FV : Hid (C1 v_19 b (o + i * 5 + 2) x) := by rw [hw1]; exact FV.out
              have FO : Hid (OwI v_19 w.heap.size (.slice (some ⟨g, 0, none⟩) L.length cg) L) := by rw [hw1]; exact FO.out
              have FB : Hid (Below w.heap.size w v_19) := by rw [hw1]; exact FB.out
              rw [← hw1] at hHeld ⊢
              clear hw1
              have m0 := FV.out.c
              refine tkz 1 rfl ?_
              refine tkz 2 rfl ?_
              refine tkz 3 rfl ?_
              refine tkz 5 rfl ?_
              refine tkz 6 rfl ?_
              refine tkz 7 rfl ?_
              refine tkz 8 rfl ?_
              refine tkz 9 rfl ?_
              refine tkz 12 rfl ?_
              refine tkz 13 rfl ?_
              refine tkz 14 rfl ?_
              refine wpAnyH_ready (rs := [0, 10]) (by kernel_rfl) (by simp) ?_
              refine (AllReadyH.cons rfl (fun K hK => ?_) (AllReadyH.cons rfl (fun K hK => ?_) AllReadyH.nil))
              · refine step_i rfl ?_
                go_simp
                obtain ⟨ea, hea⟩ : ∃ ea, ea = v_19.heap.size := ⟨_, rfl⟩
                have lea1 : b < ea := by rw [hea]; exact FV.out.lt
                have lea2 : g < ea := by rw [hea]; exact (FO.out.lt g rfl).2
                have lea3 : w.heap.size ≤ ea := by rw [hea]; exact FB.out.size
                first | (have lx_ : nb < ea := by rw [hea]; exact FN.out.lt) | skip
                obtain ⟨v_20, hw2⟩ : ∃ v_20, v_20 = v_19.alloc (.cells #[] 2) := ⟨_, rfl⟩
                have FV : Hid (C1 v_20 b (o + i * 5 + 2) x) := by rw [hw2]; exact FV.out.alloc _
                have FO : Hid (OwI v_20 w.heap.size (.slice (some ⟨g, 0, none⟩) L.length cg) L) := by rw [hw2]; exact FO.out.alloc _
                have FB : Hid (Below w.heap.size w v_20) := by rw [hw2]; exact FB.out.alloc FB.out.size _
                have FE : Hid (OwI v_20 ea (.slice (some ⟨ea, 0, none⟩) 0 0) []) := by rw [hw2, hea]; exact own_emptyI v_19 _ (Nat.le_refl _)
                rw [← hw2, ← hea]
                clear hw2 hea
                have m0 := FV.out.c
                refine hK.out _ _ (by (try dsimp only); first | exact m0 | go_keep) (fun hHeld => ?_)
                clear hK K
                try simp only [Act.put, List.getElem_toArray, List.getElem_cons_succ, List.getElem_cons_zero, List.setIfInBounds_toArray, List.set_cons_zero, List.set_cons_succ]
                refine wpAnyH_ready (rs := [4, 10]) (by kernel_rfl) (by simp) ?_
                refine (AllReadyH.cons rfl (fun K hK => ?_) (AllReadyH.cons rfl (fun K hK => ?_) AllReadyH.nil))
                · refine step_i rfl ?_
                  refine wp_append_i ea ea 0 0 [] (L.take p) rfl FE.out ⟨g, 0, none⟩ cg (by rw [le1]; rfl) (fun hpos => ⟨g, 0, rfl, fun i p hp => by rw [Nat.zero_add]; exact FO.out.cell (take_getI hp)⟩) (by simp <;> omega) (Nat.le_of_lt ((FE.out.lt ea rfl).2)) ?_
                  intro g1 c1 v_21 ho hg
                  rw [List.nil_append] at ho
                  have FV : Hid (C1 v_21 b (o + i * 5 + 2) x) := FV.out.grown hg (fun e => by have e2 := Option.some.inj e; omega)
                  have FO : Hid (OwI v_21 w.heap.size (.slice (some ⟨g, 0, none⟩) L.length cg) L) := FO.out.kept hg (Or.inr (fun e => by have e2 : g = ea := Option.some.inj e; omega))
                  have FB : Hid (Below w.heap.size w v_21) := FB.out.grown hg FB.out.size (fun j hj => by have e2 : ea = j := Option.some.inj hj; omega)
                  have FA : Hid (OwI v_21 ea (.slice (some ⟨g1, 0, none⟩) (L.take p).length c1) (L.take p)) := ho
                  have lg1 : ea ≤ g1 := (FA.out.lt g1 rfl).1
                  rw [List.nil_append]
                  clear ho hg
                  have m0 := FV.out.c
                  refine hK.out _ _ (by (try dsimp only); first | exact m0 | go_keep) (fun hHeld => ?_)
                  clear hK K
                  try simp only [Act.put, List.getElem_toArray, List.getElem_cons_succ, List.getElem_cons_zero, List.setIfInBounds_toArray, List.set_cons_zero, List.set_cons_succ]
                  refine wpAnyH_ready (rs := [10]) (by kernel_rfl) (by simp) ?_
                  refine (AllReadyH.cons rfl (fun K hK => ?_) AllReadyH.nil)
                  refine step_i rfl ?_
                  go_simp
                  obtain ⟨nb, hnb⟩ : ∃ nb, nb = v_21.heap.size := ⟨_, rfl⟩
                  first | (have ly_ : ea < nb := by rw [hnb]; exact (FE.out.lt ea rfl).2) | (have ly_ : g1 < nb := by rw [hnb]; exact (FA.out.lt g1 rfl).2) | skip
                  obtain ⟨v_22, hw2⟩ : ∃ v_22, v_22 = v_21.alloc (.cells #[.int .i64 x] 2) := ⟨_, rfl⟩
                  have FV : Hid (C1 v_22 b (o + i * 5 + 2) x) := by rw [hw2]; exact FV.out.alloc _
                  have FO : Hid (OwI v_22 w.heap.size (.slice (some ⟨g, 0, none⟩) L.length cg) L) := by rw [hw2]; exact FO.out.alloc _
                  have FB : Hid (Below w.heap.size w v_22) := by rw [hw2]; exact FB.out.alloc FB.out.size _
                  have FA : Hid (OwI v_22 ea (.slice (some ⟨g1, 0, none⟩) (L.take p).length c1) (L.take p)) := by rw [hw2]; exact FA.out.alloc _
                  have FN : Hid (C1 v_22 nb 0 x) := by rw [hw2]; exact ⟨by rw [hnb]; simp⟩
                  rw [← hw2, ← hnb]
                  clear hw2 hnb
                  have m0 := FV.out.c
                  refine hK.out _ _ (by (try dsimp only); first | exact m0 | go_keep) (fun hHeld => ?_)
                  clear hK K
                  try simp only [Act.put, List.getElem_toArray, List.getElem_cons_succ, List.getElem_cons_zero, List.setIfInBounds_toArray, List.set_cons_zero, List.set_cons_succ]
                  refine wpAnyH_ready (rs := [11]) (by kernel_rfl) (by simp) ?_
                  refine (AllReadyH.cons rfl (fun K hK => ?_) AllReadyH.nil)
                  refine step_i rfl ?_
                  refine wp_append_i ea g1 (L.take p).length c1 (L.take p) [x] (by first | rfl | (rw [le1]; rfl)) FA.out ⟨nb, 0, none⟩ 1 rfl (fun _ => ⟨nb, 0, rfl, fun i p hp => by cases i with | zero => (simp at hp; subst hp; exact FN.out.c) | succ i => simp at hp⟩) (by simp <;> omega) (by have := (FA.out.lt g1 rfl).2; omega) ?_
                  intro g2 c2 v_23 ho hg
                  have FV : Hid (C1 v_23 b (o + i * 5 + 2) x) := FV.out.grown hg (fun e => by have e2 := Option.some.inj e; omega)
                  have FO : Hid (OwI v_23 w.heap.size (.slice (some ⟨g, 0, none⟩) L.length cg) L) := FO.out.kept hg (Or.inr (fun e => by have e2 : g = g1 := Option.some.inj e; omega))
                  have FB : Hid (Below w.heap.size w v_23) := FB.out.grown hg FB.out.size (fun j hj => by have e2 : g1 = j := Option.some.inj hj; omega)
                  have FD : Hid (OwI v_23 ea (.slice (some ⟨g2, 0, none⟩) (L.take p ++ [x]).length c2) (L.take p ++ [x])) := ho
                  have lg2 : ea ≤ g2 := (FD.out.lt g2 rfl).1
                  clear ho hg
                  have m0 := FV.out.c
                  refine hK.out _ _ (by (try dsimp only); first | exact m0 | go_keep) (fun hHeld => ?_)
                  clear hK K
                  try simp only [Act.put, List.getElem_toArray, List.getElem_cons_succ, List.getElem_cons_zero, List.setIfInBounds_toArray, List.set_cons_zero, List.set_cons_succ]
                  refine wpAnyH_ready (rs := [15]) (by kernel_rfl) (by simp) ?_
                  refine (AllReadyH.cons rfl (fun K hK => ?_) AllReadyH.nil)
                  refine step_i rfl ?_
                  refine wp_append_i ea g2 (L.take p ++ [x]).length c2 (L.take p ++ [x]) (L.drop p) rfl FD.out d2 (cg - p) (by rw [le2]; rfl) (fun hpos => ⟨g, p, D2.out (by omega), fun i q hq => by rw [List.getElem?_drop] at hq; exact FO.out.cell hq⟩) (by rw [List.length_append, le1, le2]; simp; omega) (by have := (FD.out.lt g2 rfl).2; omega) ?_
                  intro g3 c3 v_24 ho hg
                  rw [HM.out] at ho ⊢
                  have FV : Hid (C1 v_24 b (o + i * 5 + 2) x) := FV.out.grown hg (fun e => by have e2 := Option.some.inj e; omega)
                  have FO : Hid (OwI v_24 w.heap.size (.slice (some ⟨g, 0, none⟩) L.length cg) L) := FO.out.kept hg (Or.inr (fun e => by have e2 : g = g2 := Option.some.inj e; omega))
                  have FB : Hid (Below w.heap.size w v_24) := FB.out.grown hg FB.out.size (fun j hj => by have e2 : g2 = j := Option.some.inj hj; omega)
                  have FQ : Hid (OwI v_24 ea (.slice (some ⟨g3, 0, none⟩) M.length c3) M) := ho
                  clear ho hg
                  have m0 := FV.out.c
                  refine hK.out _ _ (by (try dsimp only); first | exact m0 | go_keep) (fun hHeld => ?_)
                  clear hK K
                  try simp only [Act.put, List.getElem_toArray, List.getElem_cons_succ, List.getElem_cons_zero, List.setIfInBounds_toArray, List.set_cons_zero, List.set_cons_succ]
                  refine tkz 16 rfl ?_
                  refine wpAnyH_done (by kernel_rfl) ?_ _
                  go_wp2_with fail
                  go_roundw
                  case rel => exact ⟨i + 1, g3, c3, by rw [HI.out, HMI.out], by simp, by omega, by rw [HI.out, HMI.out]; exact FQ.out.base lea3, FB.out⟩
                  case measure => simp [intOf]; omega
                · refine step_i rfl ?_
                  go_simp
                  obtain ⟨nb, hnb⟩ : ∃ nb, nb = v_20.heap.size := ⟨_, rfl⟩
                  first | (have ly_ : ea < nb := by rw [hnb]; exact (FE.out.lt ea rfl).2) | (have ly_ : g1 < nb := by rw [hnb]; exact (FA.out.lt g1 rfl).2) | skip
                  obtain ⟨v_25, hw2⟩ : ∃ v_25, v_25 = v_20.alloc (.cells #[.int .i64 x] 2) := ⟨_, rfl⟩
                  have FV : Hid (C1 v_25 b (o + i * 5 + 2) x) := by rw [hw2]; exact FV.out.alloc _
                  have FO : Hid (OwI v_25 w.heap.size (.slice (some ⟨g, 0, none⟩) L.length cg) L) := by rw [hw2]; exact FO.out.alloc _
                  have FB : Hid (Below w.heap.size w v_25) := by rw [hw2]; exact FB.out.alloc FB.out.size _
                  have FE : Hid (OwI v_25 ea (.slice (some ⟨ea, 0, none⟩) 0 0) []) := by rw [hw2]; exact FE.out.alloc _
                  have FN : Hid (C1 v_25 nb 0 x) := by rw [hw2]; exact ⟨by rw [hnb]; simp⟩
                  rw [← hw2, ← hnb]
                  clear hw2 hnb
                  have m0 := FV.out.c
                  refine hK.out _ _ (by (try dsimp only); first | exact m0 | go_keep) (fun hHeld => ?_)
                  clear hK K
                  try simp only [Act.put, List.getElem_toArray, List.getElem_cons_succ, List.getElem_cons_zero, List.setIfInBounds_toArray, List.set_cons_zero, List.set_cons_succ]
                  refine wpAnyH_ready (rs := [4]) (by kernel_rfl) (by simp) ?_
                  refine (AllReadyH.cons rfl (fun K hK => ?_) AllReadyH.nil)
                  refine step_i rfl ?_
                  refine wp_append_i ea ea 0 0 [] (L.take p) rfl FE.out ⟨g, 0, none⟩ cg (by rw [le1]; rfl) (fun hpos => ⟨g, 0, rfl, fun i p hp => by rw [Nat.zero_add]; exact FO.out.cell (take_getI hp)⟩) (by simp <;> omega) (Nat.le_of_lt ((FE.out.lt ea rfl).2)) ?_
                  intro g1 c1 v_26 ho hg
                  rw [List.nil_append] at ho
                  have FV : Hid (C1 v_26 b (o + i * 5 + 2) x) := FV.out.grown hg (fun e => by have e2 := Option.some.inj e; omega)
                  have FO : Hid (OwI v_26 w.heap.size (.slice (some ⟨g, 0, none⟩) L.length cg) L) := FO.out.kept hg (Or.inr (fun e => by have e2 : g = ea := Option.some.inj e; omega))
                  have FB : Hid (Below w.heap.size w v_26) := FB.out.grown hg FB.out.size (fun j hj => by have e2 : ea = j := Option.some.inj hj; omega)
                  have FN : Hid (C1 v_26 nb 0 x) := FN.out.grown hg (fun e => by have e2 := Option.some.inj e; omega)
                  have FA : Hid (OwI v_26 ea (.slice (some ⟨g1, 0, none⟩) (L.take p).length c1) (L.take p)) := ho
                  have lg1 : ea ≤ g1 := (FA.out.lt g1 rfl).1
                  rw [List.nil_append]
                  clear ho hg
                  have m0 := FV.out.c
                  refine hK.out _ _ (by (try dsimp only); first | exact m0 | go_keep) (fun hHeld => ?_)
                  clear hK K
                  try simp only [Act.put, List.getElem_toArray, List.getElem_cons_succ, List.getElem_cons_zero, List.setIfInBounds_toArray, List.set_cons_zero, List.set_cons_succ]
                  refine wpAnyH_ready (rs := [11]) (by kernel_rfl) (by simp) ?_
                  refine (AllReadyH.cons rfl (fun K hK => ?_) AllReadyH.nil)
                  refine step_i rfl ?_
                  refine wp_append_i ea g1 (L.take p).length c1 (L.take p) [x] (by first | rfl | (rw [le1]; rfl)) FA.out ⟨nb, 0, none⟩ 1 rfl (fun _ => ⟨nb, 0, rfl, fun i p hp => by cases i with | zero => (simp at hp; subst hp; exact FN.out.c) | succ i => simp at hp⟩) (by simp <;> omega) (by have := (FA.out.lt g1 rfl).2; omega) ?_
                  intro g2 c2 v_27 ho hg
                  have FV : Hid (C1 v_27 b (o + i * 5 + 2) x) := FV.out.grown hg (fun e => by have e2 := Option.some.inj e; omega)
                  have FO : Hid (OwI v_27 w.heap.size (.slice (some ⟨g, 0, none⟩) L.length cg) L) := FO.out.kept hg (Or.inr (fun e => by have e2 : g = g1 := Option.some.inj e; omega))
                  have FB : Hid (Below w.heap.size w v_27) := FB.out.grown hg FB.out.size (fun j hj => by have e2 : g1 = j := Option.some.inj hj; omega)
                  have FD : Hid (OwI v_27 ea (.slice (some ⟨g2, 0, none⟩) (L.take p ++ [x]).length c2) (L.take p ++ [x])) := ho
                  have lg2 : ea ≤ g2 := (FD.out.lt g2 rfl).1
                  clear ho hg
                  have m0 := FV.out.c
                  refine hK.out _ _ (by (try dsimp only); first | exact m0 | go_keep) (fun hHeld => ?_)
                  clear hK K
                  try simp only [Act.put, List.getElem_toArray, List.getElem_cons_succ, List.getElem_cons_zero, List.setIfInBounds_toArray, List.set_cons_zero, List.set_cons_succ]
                  refine wpAnyH_ready (rs := [15]) (by kernel_rfl) (by simp) ?_
                  refine (AllReadyH.cons rfl (fun K hK => ?_) AllReadyH.nil)
                  refine step_i rfl ?_
                  refine wp_append_i ea g2 (L.take p ++ [x]).length c2 (L.take p ++ [x]) (L.drop p) rfl FD.out d2 (cg - p) (by rw [le2]; rfl) (fun hpos => ⟨g, p, D2.out (by omega), fun i q hq => by rw [List.getElem?_drop] at hq; exact FO.out.cell hq⟩) (by rw [List.length_append, le1, le2]; simp; omega) (by have := (FD.out.lt g2 rfl).2; omega) ?_
                  intro g3 c3 v_28 ho hg
                  rw [HM.out] at ho ⊢
                  have FV : Hid (C1 v_28 b (o + i * 5 + 2) x) := FV.out.grown hg (fun e => by have e2 := Option.some.inj e; omega)
                  have FO : Hid (OwI v_28 w.heap.size (.slice (some ⟨g, 0, none⟩) L.length cg) L) := FO.out.kept hg (Or.inr (fun e => by have e2 : g = g2 := Option.some.inj e; omega))
                  have FB : Hid (Below w.heap.size w v_28) := FB.out.grown hg FB.out.size (fun j hj => by have e2 : g2 = j := Option.some.inj hj; omega)
                  have FQ : Hid (OwI v_28 ea (.slice (some ⟨g3, 0, none⟩) M.length c3) M) := ho
                  clear ho hg
                  have m0 := FV.out.c
                  refine hK.out _ _ (by (try dsimp only); first | exact m0 | go_keep) (fun hHeld => ?_)
                  clear hK K
                  try simp only [Act.put, List.getElem_toArray, List.getElem_cons_succ, List.getElem_cons_zero, List.setIfInBounds_toArray, List.set_cons_zero, List.set_cons_succ]
                  refine tkz 16 rfl ?_
                  refine wpAnyH_done (by kernel_rfl) ?_ _
                  go_wp2_with fail
                  go_roundw
                  case rel => exact ⟨i + 1, g3, c3, by rw [HI.out, HMI.out], by simp, by omega, by rw [HI.out, HMI.out]; exact FQ.out.base lea3, FB.out⟩
                  case measure => simp [intOf]; omega
              · refine step_i rfl ?_
                go_simp
                obtain ⟨nb, hnb⟩ : ∃ nb, nb = v_19.heap.size := ⟨_, rfl⟩
                first | (have ly_ : ea < nb := by rw [hnb]; exact (FE.out.lt ea rfl).2) | (have ly_ : g1 < nb := by rw [hnb]; exact (FA.out.lt g1 rfl).2) | skip
                obtain ⟨v_29, hw2⟩ : ∃ v_29, v_29 = v_19.alloc (.cells #[.int .i64 x] 2) := ⟨_, rfl⟩
                have FV : Hid (C1 v_29 b (o + i * 5 + 2) x) := by rw [hw2]; exact FV.out.alloc _
                have FO : Hid (OwI v_29 w.heap.size (.slice (some ⟨g, 0, none⟩) L.length cg) L) := by rw [hw2]; exact FO.out.alloc _
                have FB : Hid (Below w.heap.size w v_29) := by rw [hw2]; exact FB.out.alloc FB.out.size _
                have FN : Hid (C1 v_29 nb 0 x) := by rw [hw2]; exact ⟨by rw [hnb]; simp⟩
                rw [← hw2, ← hnb]
                clear hw2 hnb
                have m0 := FV.out.c
                refine hK.out _ _ (by (try dsimp only); first | exact m0 | go_keep) (fun hHeld => ?_)
                clear hK K
                try simp only [Act.put, List.getElem_toArray, List.getElem_cons_succ, List.getElem_cons_zero, List.setIfInBounds_toArray, List.set_cons_zero, List.set_cons_succ]
                refine wpAnyH_ready (rs := [0]) (by kernel_rfl) (by simp) ?_
                refine (AllReadyH.cons rfl (fun K hK => ?_) AllReadyH.nil)
                refine step_i rfl ?_
                go_simp
                obtain ⟨ea, hea⟩ : ∃ ea, ea = v_29.heap.size := ⟨_, rfl⟩
                have lea1 : b < ea := by rw [hea]; exact FV.out.lt
                have lea2 : g < ea := by rw [hea]; exact (FO.out.lt g rfl).2
                have lea3 : w.heap.size ≤ ea := by rw [hea]; exact FB.out.size
                first | (have lx_ : nb < ea := by rw [hea]; exact FN.out.lt) | skip
                obtain ⟨v_30, hw2⟩ : ∃ v_30, v_30 = v_29.alloc (.cells #[] 2) := ⟨_, rfl⟩
                have FV : Hid (C1 v_30 b (o + i * 5 + 2) x) := by rw [hw2]; exact FV.out.alloc _
                have FO : Hid (OwI v_30 w.heap.size (.slice (some ⟨g, 0, none⟩) L.length cg) L) := by rw [hw2]; exact FO.out.alloc _
                have FB : Hid (Below w.heap.size w v_30) := by rw [hw2]; exact FB.out.alloc FB.out.size _
                have FN : Hid (C1 v_30 nb 0 x) := by rw [hw2]; exact FN.out.alloc _
                have FE : Hid (OwI v_30 ea (.slice (some ⟨ea, 0, none⟩) 0 0) []) := by rw [hw2, hea]; exact own_emptyI v_29 _ (Nat.le_refl _)
                rw [← hw2, ← hea]
                clear hw2 hea
                have m0 := FV.out.c
                refine hK.out _ _ (by (try dsimp only); first | exact m0 | go_keep) (fun hHeld => ?_)
                clear hK K
                try simp only [Act.put, List.getElem_toArray, List.getElem_cons_succ, List.getElem_cons_zero, List.setIfInBounds_toArray, List.set_cons_zero, List.set_cons_succ]
                refine wpAnyH_ready (rs := [4]) (by kernel_rfl) (by simp) ?_
                refine (AllReadyH.cons rfl (fun K hK => ?_) AllReadyH.nil)
                refine step_i rfl ?_
                refine wp_append_i ea ea 0 0 [] (L.take p) rfl FE.out ⟨g, 0, none⟩ cg (by rw [le1]; rfl) (fun hpos => ⟨g, 0, rfl, fun i p hp => by rw [Nat.zero_add]; exact FO.out.cell (take_getI hp)⟩) (by simp <;> omega) (Nat.le_of_lt ((FE.out.lt ea rfl).2)) ?_
                intro g1 c1 v_31 ho hg
                rw [List.nil_append] at ho
                have FV : Hid (C1 v_31 b (o + i * 5 + 2) x) := FV.out.grown hg (fun e => by have e2 := Option.some.inj e; omega)
                have FO : Hid (OwI v_31 w.heap.size (.slice (some ⟨g, 0, none⟩) L.length cg) L) := FO.out.kept hg (Or.inr (fun e => by have e2 : g = ea := Option.some.inj e; omega))
                have FB : Hid (Below w.heap.size w v_31) := FB.out.grown hg FB.out.size (fun j hj => by have e2 : ea = j := Option.some.inj hj; omega)
                have FN : Hid (C1 v_31 nb 0 x) := FN.out.grown hg (fun e => by have e2 := Option.some.inj e; omega)
                have FA : Hid (OwI v_31 ea (.slice (some ⟨g1, 0, none⟩) (L.take p).length c1) (L.take p)) := ho
                have lg1 : ea ≤ g1 := (FA.out.lt g1 rfl).1
                rw [List.nil_append]
                clear ho hg
                have m0 := FV.out.c
                refine hK.out _ _ (by (try dsimp only); first | exact m0 | go_keep) (fun hHeld => ?_)
                clear hK K
                try simp only [Act.put, List.getElem_toArray, List.getElem_cons_succ, List.getElem_cons_zero, List.setIfInBounds_toArray, List.set_cons_zero, List.set_cons_succ]
                refine wpAnyH_ready (rs := [11]) (by kernel_rfl) (by simp) ?_
                refine (AllReadyH.cons rfl (fun K hK => ?_) AllReadyH.nil)
                refine step_i rfl ?_
                refine wp_append_i ea g1 (L.take p).length c1 (L.take p) [x] (by first | rfl | (rw [le1]; rfl)) FA.out ⟨nb, 0, none⟩ 1 rfl (fun _ => ⟨nb, 0, rfl, fun i p hp => by cases i with | zero => (simp at hp; subst hp; exact FN.out.c) | succ i => simp at hp⟩) (by simp <;> omega) (by have := (FA.out.lt g1 rfl).2; omega) ?_
                intro g2 c2 v_32 ho hg
                have FV : Hid (C1 v_32 b (o + i * 5 + 2) x) := FV.out.grown hg (fun e => by have e2 := Option.some.inj e; omega)
                have FO : Hid (OwI v_32 w.heap.size (.slice (some ⟨g, 0, none⟩) L.length cg) L) := FO.out.kept hg (Or.inr (fun e => by have e2 : g = g1 := Option.some.inj e; omega))
                have FB : Hid (Below w.heap.size w v_32) := FB.out.grown hg FB.out.size (fun j hj => by have e2 : g1 = j := Option.some.inj hj; omega)
                have FD : Hid (OwI v_32 ea (.slice (some ⟨g2, 0, none⟩) (L.take p ++ [x]).length c2) (L.take p ++ [x])) := ho
                have lg2 : ea ≤ g2 := (FD.out.lt g2 rfl).1
                clear ho hg
                have m0 := FV.out.c
                refine hK.out _ _ (by (try dsimp only); first | exact m0 | go_keep) (fun hHeld => ?_)
                clear hK K
                try simp only [Act.put, List.getElem_toArray, List.getElem_cons_succ, List.getElem_cons_zero, List.setIfInBounds_toArray, List.set_cons_zero, List.set_cons_succ]
                refine wpAnyH_ready (rs := [15]) (by kernel_rfl) (by simp) ?_
                refine (AllReadyH.cons rfl (fun K hK => ?_) AllReadyH.nil)
                refine step_i rfl ?_
                refine wp_append_i ea g2 (L.take p ++ [x]).length c2 (L.take p ++ [x]) (L.drop p) rfl FD.out d2 (cg - p) (by rw [le2]; rfl) (fun hpos => ⟨g, p, D2.out (by omega), fun i q hq => by rw [List.getElem?_drop] at hq; exact FO.out.cell hq⟩) (by rw [List.length_append, le1, le2]; simp; omega) (by have := (FD.out.lt g2 rfl).2; omega) ?_
                intro g3 c3 v_33 ho hg
                rw [HM.out] at ho ⊢
                have FV : Hid (C1 v_33 b (o + i * 5 + 2) x) := FV.out.grown hg (fun e => by have e2 := Option.some.inj e; omega)
                have FO : Hid (OwI v_33 w.heap.size (.slice (some ⟨g, 0, none⟩) L.length cg) L) := FO.out.kept hg (Or.inr (fun e => by have e2 : g = g2 := Option.some.inj e; omega))
                have FB : Hid (Below w.heap.size w v_33) := FB.out.grown hg FB.out.size (fun j hj => by have e2 : g2 = j := Option.some.inj hj; omega)
                have FQ : Hid (OwI v_33 ea (.slice (some ⟨g3, 0, none⟩) M.length c3) M) := ho
                clear ho hg
                have m0 := FV.out.c
                refine hK.out _ _ (by (try dsimp only); first | exact m0 | go_keep) (fun hHeld => ?_)
                clear hK K
                try simp only [Act.put, List.getElem_toArray, List.getElem_cons_succ, List.getElem_cons_zero, List.setIfInBounds_toArray, List.set_cons_zero, List.set_cons_succ]
                refine tkz 16 rfl ?_
                refine wpAnyH_done (by kernel_rfl) ?_ _
                go_wp2_with fail
                go_roundw
                case rel => exact ⟨i + 1, g3, c3, by rw [HI.out, HMI.out], by simp, by omega, by rw [HI.out, HMI.out]; exact FQ.out.base lea3, FB.out⟩
                case measure => simp [intOf]; omega
      · have hkk : (e.kd != kd) = true := by simp [hk]
        have HN : Hid (idsM kd (l.take (i + 1)) = L) := by show idsM kd (l.take (i + 1)) = L; rw [hsn, if_neg hk]
        clear he h5 hsn hat hL hb ho hk
        go_wp2_with fail
        go_roundw
        case rel => exact ⟨i + 1, g, cg, by rw [HN.out], by simp, by omega, by rw [HN.out]; exact FO.out, FB.out⟩
        case measure => simp [intOf]; omega
    · have ei : i = l.length := by omega
      subst ei
      have HO : Hid (OwI wr w.heap.size (.slice (some ⟨g, 0, none⟩) R.length cg) R) := by
        have q := ho
        rw [List.take_length, HR.out] at q
        exact q
      have HQ : Hid ((idsM kd (l.take l.length)).length = R.length) := by show (idsM kd (l.take l.length)).length = R.length; rw [List.take_length, HR.out]
      rw [HQ.out]
      have FB : Hid (Below w.heap.size w wr) := hb
      clear ho hb
      go_wp2_with fail
      go_ret
      exact ⟨⟨_, rfl, HO.out⟩, FB.out⟩
end Go.Proofs.Ytdklllfafafmeaa
