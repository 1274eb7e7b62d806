/-
  Zones: how many cars have each (the program).
-/
import Derived.Test.YtnpnlckdggakmaaZonJm
import Derived.Test.YtnpnlckdggakmaaInts
import Derived.Maps.OwnSet
import Derived.Maps.RangeWalk
import Derived.Deep.RegionHeld3
namespace Go.Proofs.Ytnpnlckdggakmaa
open Go.RowKit Pl Go.Maps Go.ChangeMaps Go.MapKept
set_option linter.unusedSimpArgs false
set_option linter.unusedVariables false

theorem look_z {w : World} {b n : Nat} {D : DataW Value} {zs : List Nat} (h : MapZ w b n D) (t : TZ D zs) {m : Nat} (hm : m < 4096) :
    (Instr.lookup 82 (.map (some b)) (.agg (bvs m).toArray) false).run Try.prog w = .ok (.int .i64 (zs.count m : Nat)) w := by
  obtain ⟨v, ps, hrun, hv⟩ := h.o.lookup lawF undZM (zeroZ w) (zd := .held (.int .i64 0)) (zp := []) rfl (keyOf_F m)
  rw [hrun]
  have e : (DataW.held v : DataW Value) = D.atKey (keyF m) (.held (.int .i64 0)) := by
    have q := Option.some.inj hv
    exact congrArg Prod.fst q
  by_cases c : m ∈ zs
  · rw [(t.y m c).2] at e
    injection e with e
    rw [e]
  · rw [atKey_of_not_has (t.no hm c)] at e
    injection e with e
    rw [e, List.count_eq_zero_of_not_mem c]
    rfl
theorem look_z2 {w : World} {b n : Nat} {D : DataW Value} {v0 : Value} (hD : IsMap D) {m : Nat} (h : MapZ w b n (D.put (keyF m) (.held v0))) :
    (Instr.lookup 82 (.map (some b)) (.agg (bvs m).toArray) false).run Try.prog w = .ok v0 w := by
  obtain ⟨v, ps, hrun, hv⟩ := h.o.lookup lawF undZM (zeroZ w) (zd := .held (.int .i64 0)) (zp := []) rfl (keyOf_F m)
  rw [hrun]
  have e : (DataW.held v : DataW Value) = (D.put (keyF m) (.held v0)).atKey (keyF m) (.held (.int .i64 0)) := by
    have q := Option.some.inj hv
    exact congrArg Prod.fst q
  rw [atKey_put_same hD (keyF_is m)] at e
  injection e with e
  rw [e]
theorem wp_mapEntryZ {w : World} {a : Act} {K : Act → World → Prop} {Q : Exit → Act → World → Prop} {m x : Operand} {dst : Option Tmp} {ty : TypeId} {ps : String} {af : Array Edge}
    (b n : Nat) (D : DataW Value) (z : Nat) (hm : a.eval m = .map (some b)) (hx : a.eval x = .agg (bvs z).toArray) (hown : MapZ w b n D) (hn : n < maxLen)
    (h : ∀ v st w', PendZ w' b n D (keyF z) st → MapZ w' b (n + 1) (D.put (keyF z) (.held v)) → (Instr.lookup 82 (.map (some b)) (.agg (bvs z).toArray) false).run Try.prog w = .ok v w → w.grownBy w' (some b) → K (a.put dst (.tuple #[v, goInt (st : Nat)])) w') : Oper.wp Try.prog { dst := dst, op := .mapEntry 82 m x, type := ty, pos := ps, after := af, guard := none } a w K Q := by
  obtain ⟨w', v, st, hrun, hp, ho, hlk, hg⟩ := mapEntry_ownZ hown.o hn (keyOf_F z)
  unfold Oper.wp
  simp [execOp, hm, hx, hrun, Result.andThen]
  exact h v st w' hp ⟨ho⟩ hlk hg
theorem wp_entryStoreZ {w : World} {a : Act} {K : Act → World → Prop} {Q : Exit → Act → World → Prop} {m s x : Operand} {dst : Option Tmp} {ty : TypeId} {ps : String} {af : Array Edge}
    (b n : Nat) (D : DataW Value) (z : Nat) (st : Nat) (val : Value) (hm : a.eval m = .map (some b)) (hs : a.eval s = goInt (st : Nat)) (hx : a.eval x = val) (hp : PendZ w b n D (keyF z) st)
    (h : ∀ w', MapZ w' b (n + 1) (D.put (keyF z) (.held val)) → w.grownBy w' (some b) → K (a.put dst undef) w') : Oper.wp Try.prog { dst := dst, op := .entryStore 82 m s x, type := ty, pos := ps, after := af, guard := none } a w K Q := by
  obtain ⟨w', hrun, ho, hg⟩ := entryStore_ownZ hp val
  unfold Oper.wp
  simp [execOp, hm, hs, hx, hrun, Result.andThen]
  exact h w' ⟨ho⟩ hg
theorem step_z {P : Program} {ops : Array Oper} {o : Oper} {a : Act} {w : World} {K : Act → World → Prop} {Q : Exit → Act → World → Prop} {E : Prop} (hg : o.guard = none) (h : Oper.wp P o a w K Q) : if Region.wanted o (yielded ops a.tmps) = true then Oper.wp P o a w K Q else E := by
  rw [if_pos (by simp [Region.wanted, hg])]
  exact h
set_option maxRecDepth 20000 in
set_option maxHeartbeats 16000000 in
theorem carsByZone_any (zs : List Nat) (hb0 : ∀ z ∈ zs, z < 4096) (hl : zs.length ≤ 1000) (a : Option Addr) (cap : Nat) (w : World) (hI : IIn w a (zs.map (fun z : Nat => (z : Int)))) :
    Calls Try.prog 64 #[.slice a zs.length cap] w fun e w' => ∃ mb D, e = .returned (.map (some mb)) ∧ w.heap.size ≤ mb ∧ MapZ w' mb zs.length D ∧ TZ D zs ∧ Below w.heap.size w w' := by
  have hmm := @run_makeMap Try.prog
  have HI : Hid (IIn w a (zs.map (fun z : Nat => (z : Int)))) := hI
  clear hI
  go_enter Try.func64, Try.ntmps64
  go_upto_region 2 with fail
  obtain ⟨mb, hmb⟩ : ∃ mb, mb = w.heap.size := ⟨_, rfl⟩
  obtain ⟨W0, hw_⟩ : ∃ W0, W0 = w.alloc (.map #[] 0) := ⟨_, rfl⟩
  have FM : Hid (MapZ W0 mb 0 (.map [])) := by rw [hw_, hmb]; exact ⟨World.ownsMap_made w Try.prog 61 RVZ⟩
  have FB : Hid (Below w.heap.size w W0) := by rw [hw_]; exact (Below.refl _ _).alloc (Nat.le_refl _) _
  have lmb : w.heap.size ≤ mb := by omega
  rw [← hmb, ← hw_]
  clear hmb hw_ hmm
  go_wp2_with fail
  go_loopw [9] (fun ii wr => ∃ (i : Nat) (D : DataW Value), ii = .int .i64 (i : Int) ∧ i ≤ zs.length ∧ MapZ wr mb i D ∧ TZ D (zs.take i) ∧ Below w.heap.size w wr) (fun ii _ => zs.length - (intOf ii).toNat)
  case atStart => exact ⟨0, .map [], rfl, by omega, FM.out, TZ.empty, FB.out⟩
  case round =>
    obtain ⟨i, D, rfl, hi, hM, hT, hB⟩ := hrel
    clear FM FB
    have FM : Hid (MapZ wr mb i D) := hM
    have TZ0 : Hid (TZ D (zs.take i)) := hT
    have FB : Hid (Below w.heap.size w wr) := hB
    clear hM hT hB
    by_cases hlt : i < zs.length
    · obtain ⟨z, hz⟩ : ∃ z, zs[i]? = some z := ⟨_, List.getElem?_eq_getElem hlt⟩
      have hzb : z < 4096 := hb0 z (List.mem_of_getElem? hz)
      have hn : i < maxLen := by unfold maxLen; omega
      have hx : (zs.map (fun z : Nat => (z : Int)))[i]? = some (z : Int) := by rw [List.getElem?_map, hz]; rfl
      have cl := List.count_le_length (a := z) (l := zs.take i)
      rw [List.length_take] at cl
      have ew : IntKind.i64.wrap ((((zs.take i).count z : Nat) : Int) + 1) = (((zs.take i).count z : Nat) : Int) + 1 := IntWalk.i64_in _ (by omega)
      have HT1 : Hid (TZ (D.put (keyF z) (.held (.int .i64 (((zs.take i).count z : Nat) + 1)))) (zs.take (i + 1))) := by
        have q := TZ0.out.put FM.out.isMap hzb
        have e : zs.take (i + 1) = zs.take i ++ [z] := by rw [List.take_add_one, hz]; rfl
        rw [e]
        exact q
      rcases HI.out with h0 | ⟨g, rfl, hg, hc⟩
      · have : zs = [] := by simpa using h0
        rw [this] at hlt; simp at hlt
      have c0 : wr.cell? ⟨g, i, none⟩ = some (.int .i64 (z : Int)) := (FB.out.cell (p := ⟨g, i, none⟩) hg).trans (hc i _ hx)
      clear hx hc hz
      go_upto_region 5 with fail
      clear c0
      have FM : Hid (MapZ wr.drew mb i D) := FM.out.below (Below.refl _ _).drew FM.out.lt
      have FB : Hid (Below w.heap.size w wr.drew) := FB.out.drew
      refine wp_region_held_drew (S := (fun _ => True)) (by kernel_rfl) (by (try dsimp only); all_goals trivial) (fun hHeld => ?_)
      obtain ⟨v_1, hw1⟩ : ∃ v_1, v_1 = wr.drew := ⟨_, rfl⟩
      have FM : Hid (MapZ v_1 mb i D) := by rw [hw1]; exact FM.out
      have FB : Hid (Below w.heap.size w v_1) := by rw [hw1]; exact FB.out
      rw [← hw1]
      clear hw1
      refine tkz 0 rfl ?_
      refine tkz 1 rfl ?_
      refine wpAnyH_ready (rs := [2]) (by kernel_rfl) (by simp) ?_
      refine (AllReadyH.cons rfl (fun K hK => ?_) AllReadyH.nil)
      go_simp
      refine (setOf_any z hzb _).mono ?_
      rintro e v_2 ⟨rfl, hb⟩
      have FM : Hid (MapZ v_2 mb i D) := FM.out.below hb FM.out.lt
      have FB : Hid (Below w.heap.size w v_2) := FB.out.trans (hb.mono FB.out.size)
      clear hb
      try dsimp only
      refine hK.out _ _ (by (try dsimp only); all_goals trivial) (fun hHeld => ?_)
      clear hK K
      try simp only [Act.put, List.getElem_toArray, List.getElem_cons_succ, List.getElem_cons_zero, List.setIfInBounds_toArray, List.set_cons_zero, List.set_cons_succ]
      refine wpAnyH_ready (rs := [3, 5]) (by kernel_rfl) (by simp) ?_
      refine (AllReadyH.cons rfl (fun K hK => ?_) (AllReadyH.cons rfl (fun K hK => ?_) AllReadyH.nil))
      · first | (have lk := look_z2 HIM.out FM2.out) | (have lk := look_z FM.out TZ0.out hzb)
        go_simp
        refine hK.out _ _ (by (try dsimp only); all_goals trivial) (fun hHeld => ?_)
        clear hK K
        try simp only [Act.put, List.getElem_toArray, List.getElem_cons_succ, List.getElem_cons_zero, List.setIfInBounds_toArray, List.set_cons_zero, List.set_cons_succ]
        refine tkz 4 rfl ?_
        refine wpAnyH_ready (rs := [5]) (by kernel_rfl) (by simp) ?_
        refine (AllReadyH.cons rfl (fun K hK => ?_) AllReadyH.nil)
        refine step_z rfl ?_
        refine wp_mapEntryZ mb i D z rfl rfl FM.out hn ?_
        intro vq st v_3 hpd hmo hlk hgr
        have ev : Value.int .i64 ((zs.take i).count z : Nat) = vq := by have q := (look_z FM.out TZ0.out hzb).symm.trans hlk; injection q
        subst ev
        have HIM : Hid (IsMap D) := FM.out.isMap
        have FB : Hid (Below w.heap.size w v_3) := FB.out.grown hgr FB.out.size (fun q hq => by cases hq; omega)
        have FPd : Hid (PendZ v_3 mb i D (keyF z) st) := hpd
        have FM2 : Hid (MapZ v_3 mb (i + 1) (D.put (keyF z) (.held (.int .i64 ((zs.take i).count z : Nat))))) := hmo
        clear hpd hmo hlk hgr
        refine hK.out _ _ (by (try dsimp only); all_goals trivial) (fun hHeld => ?_)
        clear hK K
        try simp only [Act.put, List.getElem_toArray, List.getElem_cons_succ, List.getElem_cons_zero, List.setIfInBounds_toArray, List.set_cons_zero, List.set_cons_succ]
        refine tkz 6 rfl ?_
        refine wpAnyH_ready (rs := [7]) (by kernel_rfl) (by simp) ?_
        refine (AllReadyH.cons rfl (fun K hK => ?_) AllReadyH.nil)
        refine step_z rfl ?_
        refine wp_entryStoreZ mb i D z st (.int .i64 (((zs.take i).count z : Nat) + 1)) rfl rfl (by first | rfl | (rw [ew]; rfl)) FPd.out ?_
        intro v_4 hmj hgr
        have FB : Hid (Below w.heap.size w v_4) := FB.out.grown hgr FB.out.size (fun q hq => by cases hq; omega)
        have FM : Hid (MapZ v_4 mb (i + 1) (D.put (keyF z) (.held (.int .i64 (((zs.take i).count z : Nat) + 1))))) := hmj
        clear hmj hgr
        refine hK.out _ _ (by (try dsimp only); all_goals trivial) (fun hHeld => ?_)
        clear hK K
        try simp only [Act.put, List.getElem_toArray, List.getElem_cons_succ, List.getElem_cons_zero, List.setIfInBounds_toArray, List.set_cons_zero, List.set_cons_succ]
        refine wpAnyH_done (by kernel_rfl) ?_ _
        go_wp2_with fail
        go_roundw
        case rel => exact ⟨i + 1, _, by simp, by omega, FM.out, HT1.out, FB.out⟩
        case measure => simp [intOf]; omega
      · refine step_z rfl ?_
        refine wp_mapEntryZ mb i D z rfl rfl FM.out hn ?_
        intro vq st v_5 hpd hmo hlk hgr
        have ev : Value.int .i64 ((zs.take i).count z : Nat) = vq := by have q := (look_z FM.out TZ0.out hzb).symm.trans hlk; injection q
        subst ev
        have HIM : Hid (IsMap D) := FM.out.isMap
        have FB : Hid (Below w.heap.size w v_5) := FB.out.grown hgr FB.out.size (fun q hq => by cases hq; omega)
        have FPd : Hid (PendZ v_5 mb i D (keyF z) st) := hpd
        have FM2 : Hid (MapZ v_5 mb (i + 1) (D.put (keyF z) (.held (.int .i64 ((zs.take i).count z : Nat))))) := hmo
        clear hpd hmo hlk hgr
        refine hK.out _ _ (by (try dsimp only); all_goals trivial) (fun hHeld => ?_)
        clear hK K
        try simp only [Act.put, List.getElem_toArray, List.getElem_cons_succ, List.getElem_cons_zero, List.setIfInBounds_toArray, List.set_cons_zero, List.set_cons_succ]
        refine tkz 6 rfl ?_
        refine wpAnyH_ready (rs := [3]) (by kernel_rfl) (by simp) ?_
        refine (AllReadyH.cons rfl (fun K hK => ?_) AllReadyH.nil)
        first | (have lk := look_z2 HIM.out FM2.out) | (have lk := look_z FM.out TZ0.out hzb)
        go_simp
        refine hK.out _ _ (by (try dsimp only); all_goals trivial) (fun hHeld => ?_)
        clear hK K
        try simp only [Act.put, List.getElem_toArray, List.getElem_cons_succ, List.getElem_cons_zero, List.setIfInBounds_toArray, List.set_cons_zero, List.set_cons_succ]
        refine tkz 4 rfl ?_
        refine wpAnyH_ready (rs := [7]) (by kernel_rfl) (by simp) ?_
        refine (AllReadyH.cons rfl (fun K hK => ?_) AllReadyH.nil)
        refine step_z rfl ?_
        refine wp_entryStoreZ mb i D z st (.int .i64 (((zs.take i).count z : Nat) + 1)) rfl rfl (by first | rfl | (rw [ew]; rfl)) FPd.out ?_
        intro v_6 hmj hgr
        have FB : Hid (Below w.heap.size w v_6) := FB.out.grown hgr FB.out.size (fun q hq => by cases hq; omega)
        have FM : Hid (MapZ v_6 mb (i + 1) (D.put (keyF z) (.held (.int .i64 (((zs.take i).count z : Nat) + 1))))) := hmj
        clear hmj hgr
        refine hK.out _ _ (by (try dsimp only); all_goals trivial) (fun hHeld => ?_)
        clear hK K
        try simp only [Act.put, List.getElem_toArray, List.getElem_cons_succ, List.getElem_cons_zero, List.setIfInBounds_toArray, List.set_cons_zero, List.set_cons_succ]
        refine wpAnyH_done (by kernel_rfl) ?_ _
        go_wp2_with fail
        go_roundw
        case rel => exact ⟨i + 1, _, by simp, by omega, FM.out, HT1.out, FB.out⟩
        case measure => simp [intOf]; omega
    · have ei : i = zs.length := by omega
      subst ei
      have HT : Hid (TZ D zs) := by have q := TZ0.out; rw [List.take_length] at q; exact q
      go_wp2
      go_ret
      first | exact ⟨mb, D, rfl, lmb, FM.out, HT.out, FB.out⟩ | exact ⟨⟨mb, D, rfl, lmb, FM.out, HT.out⟩, FB.out⟩
end Go.Proofs.Ytnpnlckdggakmaa
