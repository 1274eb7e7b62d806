/-
  The program's TraceFault.
-/
import Derived.Test.YtoacnglcneliiaaGreatDoorEvW
import Derived.Test.YtoacnglcneliiaaGreatDoorEvS
namespace Go.Proofs.YtoacnglcneliiaaGreatDoor
open Go.RowKit Pl Go.Maps
set_option linter.unusedSimpArgs false
set_option linter.unusedVariables false

theorem evC_id {h : Hs} {e : Ev} (k : Hs.evC h e = 0) : e.id ≤ 1000000000000000 := by
  unfold Hs.evC at k
  split at k
  · rename_i a
    simp only [Bool.and_eq_true] at a
    exact (inB_iff.1 a.2).2
  · omega
/-- The map b of at most n journeys reads as D. -/
structure MapJ (w : World) (b n : Nat) (D : DataW Value) : Prop where
  o : w.ownsMap Tryz.prog 2 RV b n D
theorem MapJ.lt {w : World} {b n : Nat} {D : DataW Value} (h : MapJ w b n D) : b < w.heap.size := own_ltJ h.o
theorem MapJ.below {w w' : World} {b n B : Nat} {D : DataW Value} (h : MapJ w b n D) (hb : Below B w w') (hB : b < B) : MapJ w' b n D := ⟨own_belowJ h.o hb hB⟩
theorem MapJ.alloc {w : World} {b n : Nat} {D : DataW Value} (h : MapJ w b n D) (o : Obj) : MapJ (w.alloc o) b n D := ⟨h.o.alloc o⟩
theorem MapJ.isMap {w : World} {b n : Nat} {D : DataW Value} (h : MapJ w b n D) : IsMap D := by
  obtain ⟨es, clock, _, _, _, e⟩ := h.o
  exact ⟨_, e⟩
/-- .. what it tells of every id. -/
structure TD (D : DataW Value) (f : Int → Option Jn) : Prop where
  y : ∀ id j, f id = some j → Maps.has D (.int .i64 id) = true ∧ ∀ z, D.atKey (.int .i64 id) z = .held (jval j)
  n : ∀ id, f id = none → Maps.has D (.int .i64 id) = false
theorem TD.put {D : DataW Value} {f : Int → Option Jn} (t : TD D f) (hD : IsMap D) (id : Int) (j : Jn) : TD (D.put (.int .i64 id) (.held (jval j))) (fun i => if i = id then some j else f i) := by
  have kl : WideAt.IsKeyLit (.int .i64 id) := by trivial
  refine ⟨fun i k h => ?_, fun i h => ?_⟩
  · by_cases e : i = id
    · subst e
      rw [if_pos rfl] at h
      cases h
      exact ⟨has_put_same hD kl _, fun z => atKey_put_same hD kl _ z⟩
    · rw [if_neg e] at h
      have ne : (Lit.int .i64 i) ≠ .int .i64 id := fun q => e (by injection q)
      obtain ⟨a, b⟩ := t.y i k h
      exact ⟨(has_put_other ne _).trans a, fun z => (atKey_put_other ne _ z).trans (b z)⟩
  · by_cases e : i = id
    · rw [if_pos e] at h; cases h
    · rw [if_neg e] at h
      have ne : (Lit.int .i64 i) ≠ .int .i64 id := fun q => e (by injection q)
      exact (has_put_other ne _).trans (t.n i h)
set_option maxRecDepth 20000 in
theorem look_jn {w : World} {b n : Nat} {D : DataW Value} {f : Int → Option Jn} (h : MapJ w b n D) (t : TD D f) (id : Int) (hw : (Lit.int .i64 id).wf = true) :
    (Instr.lookup 58 (.map (some b)) (.int .i64 id) true).run Tryz.prog w = .ok (.tuple #[jval ((f id).getD zeroJn), .bool (f id).isSome]) w := by
  obtain ⟨v, ps, hrun, hv⟩ := h.o.look_ok keyI undJM (zeroJ w) (zd := .held (.agg #[.int .i64 0, .int .i64 0, .int .i64 0, .int .i64 0, .int .i64 0, .int .i64 0, .int .i64 0])) (zp := []) rfl (keyOf_int_mk undI64 hw)
  rw [hrun]
  have e : (DataW.held v : DataW Value) = D.atKey (.int .i64 id) (.held (.agg #[.int .i64 0, .int .i64 0, .int .i64 0, .int .i64 0, .int .i64 0, .int .i64 0, .int .i64 0])) := by
    have q := Option.some.inj hv
    exact congrArg Prod.fst q
  cases c : f id with
  | none =>
    have hn := t.n id c
    rw [atKey_of_not_has hn] at e
    injection e with e
    rw [hn, e]
    rfl
  | some j =>
    obtain ⟨a1, a2⟩ := t.y id j c
    rw [a2] at e
    injection e with e
    rw [a1, e]
    rfl
set_option maxRecDepth 20000 in
theorem wp_mapEntry {w : World} {a : Act} {K : Act → World → Prop} {Q : Exit → Act → World → Prop} {m x : Operand} {dst : Option Tmp} {ty : TypeId} {ps : String} {af : Array Edge}
    (b n : Nat) (D : DataW Value) (id : Int) (hm : a.eval m = .map (some b)) (hx : a.eval x = .int .i64 id) (hown : MapJ w b n D) (hn : n < maxLen) (hw : (Lit.int .i64 id).wf = true)
    (h : ∀ v st w', Pend w' b n D (.int .i64 id) st → w.grownBy w' (some b) → K (a.put dst (.tuple #[v, goInt (st : Nat)])) w') : Oper.wp Tryz.prog { dst := dst, op := .mapEntry 58 m x, type := ty, pos := ps, after := af, guard := none } a w K Q := by
  obtain ⟨w', v, st, hrun, hp, hg⟩ := mapEntry_own hown.o hn (keyOf_int_mk undI64 hw)
  unfold Oper.wp
  simp [execOp, hm, hx, hrun, Result.andThen]
  exact h v st w' hp hg
set_option maxRecDepth 20000 in
theorem wp_entryStore {w : World} {a : Act} {K : Act → World → Prop} {Q : Exit → Act → World → Prop} {m s x : Operand} {dst : Option Tmp} {ty : TypeId} {ps : String} {af : Array Edge}
    (b n : Nat) (D : DataW Value) (id : Int) (st : Nat) (val : Value) (hm : a.eval m = .map (some b)) (hs : a.eval s = goInt (st : Nat)) (hx : a.eval x = val) (hp : Pend w b n D (.int .i64 id) st)
    (h : ∀ w', MapJ w' b (n + 1) (D.put (.int .i64 id) (.held val)) → w.grownBy w' (some b) → K (a.put dst undef) w') : Oper.wp Tryz.prog { dst := dst, op := .entryStore 58 m s x, type := ty, pos := ps, after := af, guard := none } a w K Q := by
  obtain ⟨w', hrun, ho, hg⟩ := entryStore_own hp val
  unfold Oper.wp
  simp [execOp, hm, hs, hx, hrun, Result.andThen]
  exact h w' ⟨ho⟩ hg
set_option maxRecDepth 20000 in
set_option maxHeartbeats 32000000 in
theorem journeysIn_any (h : Hs) (l : List Ev) (a : Option Addr) (cap : Nat) (hl : l.length ≤ 1048576) (w : World) (hE : EIn w w.heap.size a l) :
    Calls Tryz.prog 26 #[.agg #[.int .i64 h.fl, .int .i64 h.gp, .int .i64 h.ln, .int .i64 h.rf, .int .i64 h.sp, .int .i64 h.pu, .int .i64 h.br, .int .i64 h.dr, .int .i64 h.lv, .int .i64 h.dO, .int .i64 h.ld, .int .i64 h.qu], .slice a l.length cap] w fun r w' => (∃ v, r = .returned (.tuple #[v, .int .i64 (Hs.tr h l)]) ∧ (Hs.tr h l = 0 → ∃ mb D, v = .map (some mb) ∧ w.heap.size ≤ mb ∧ MapJ w' mb l.length D ∧ TD D (jOf l) ∧ Jt l)) ∧ Below w.heap.size w w' := by
  have hmm := @run_makeMap Tryz.prog
  have HE : Hid (EIn w w.heap.size a l) := hE
  obtain ⟨K, hK⟩ : ∃ K, Hs.tr h l = K := ⟨_, rfl⟩
  rw [hK]
  unfold Hs.tr at hK
  clear hE
  have F0 : Hid (Blk (w.alloc (.cells #[.int .i64 h.fl, .int .i64 h.gp, .int .i64 h.ln, .int .i64 h.rf, .int .i64 h.sp, .int .i64 h.pu, .int .i64 h.br, .int .i64 h.dr, .int .i64 h.lv, .int .i64 h.dO, .int .i64 h.ld, .int .i64 h.qu] 25)) w.heap.size [.int .i64 h.fl, .int .i64 h.gp, .int .i64 h.ln, .int .i64 h.rf, .int .i64 h.sp, .int .i64 h.pu, .int .i64 h.br, .int .i64 h.dr, .int .i64 h.lv, .int .i64 h.dO, .int .i64 h.ld, .int .i64 h.qu]) := Blk.at_ w _ _ _ rfl
  have FB : Hid (Below w.heap.size w (w.alloc (.cells #[.int .i64 h.fl, .int .i64 h.gp, .int .i64 h.ln, .int .i64 h.rf, .int .i64 h.sp, .int .i64 h.pu, .int .i64 h.br, .int .i64 h.dr, .int .i64 h.lv, .int .i64 h.dO, .int .i64 h.ld, .int .i64 h.qu] 25))) := (Below.refl _ _).alloc (Nat.le_refl _) _
  by_cases hf : h.fault = 0
  case neg =>
    have HV : Hid (h.fault = K) := by rw [if_neg hf] at hK; exact hK
    have HNZ : Hid (¬ K = 0) := by have q := HV.out; show ¬ K = 0; omega
    have hn : (h.fault != 0) = true := by simpa using hf
    clear hf hK hmm
    go_enter Tryz.func26, Tryz.ntmps26
    go_wp2_with (first | (refine load_blk 25 _ Tryz.underlying25 (by kernel_rfl) F0.out rfl rfl rfl ?_) | (go_at_call 17; refine (implFault_any h _).mono ?_; rintro e w1 ⟨rfl, hb⟩; have F0 : Hid (Blk w1 w.heap.size [.int .i64 h.fl, .int .i64 h.gp, .int .i64 h.ln, .int .i64 h.rf, .int .i64 h.sp, .int .i64 h.pu, .int .i64 h.br, .int .i64 h.dr, .int .i64 h.lv, .int .i64 h.dO, .int .i64 h.ld, .int .i64 h.qu]) := F0.out.below hb F0.out.lt; have FB : Hid (Below w.heap.size w w1) := FB.out.trans (hb.mono FB.out.size); clear hb))
    go_ret2
    exact ⟨⟨.map none, by rw [← HV.out]; rfl, fun z => absurd z HNZ.out⟩, FB.out⟩
  rw [if_pos hf] at hK
  unfold Hs.trC at hK
  by_cases hm : 200 < l.length
  · have HV : Hid ((2 : Int) = K) := by rw [if_pos hm] at hK; exact hK
    have HNZ : Hid (¬ K = 0) := by have q := HV.out; show ¬ K = 0; omega
    have d1 : decide ((200 : Int) < (l.length : Int)) = true := decide_eq_true (by omega)
    clear hK hmm
    go_enter Tryz.func26, Tryz.ntmps26
    go_wp2_with (first | (refine load_blk 25 _ Tryz.underlying25 (by kernel_rfl) F0.out rfl rfl rfl ?_) | (go_at_call 17; refine (implFault_any h _).mono ?_; rw [hf]; rintro e w1 ⟨rfl, hb⟩; have F0 : Hid (Blk w1 w.heap.size [.int .i64 h.fl, .int .i64 h.gp, .int .i64 h.ln, .int .i64 h.rf, .int .i64 h.sp, .int .i64 h.pu, .int .i64 h.br, .int .i64 h.dr, .int .i64 h.lv, .int .i64 h.dO, .int .i64 h.ld, .int .i64 h.qu]) := F0.out.below hb F0.out.lt; have FB : Hid (Below w.heap.size w w1) := FB.out.trans (hb.mono FB.out.size); clear hb))
    go_ret2
    exact ⟨⟨.map none, by rw [← HV.out]; rfl, fun z => absurd z HNZ.out⟩, FB.out⟩
  have HV : Hid (trG (Hs.codeI h l) l.length = K) := by rw [if_neg hm] at hK; exact hK
  have d1 : decide ((200 : Int) < (l.length : Int)) = false := decide_eq_false (by omega)
  clear hK
  go_enter Tryz.func26, Tryz.ntmps26
  go_upto_region 6 with (first | (refine load_blk 25 _ Tryz.underlying25 (by kernel_rfl) F0.out rfl rfl rfl ?_) | (go_at_call 17; refine (implFault_any h _).mono ?_; rw [hf]; rintro e w1 ⟨rfl, hb⟩; have F0 : Hid (Blk w1 w.heap.size [.int .i64 h.fl, .int .i64 h.gp, .int .i64 h.ln, .int .i64 h.rf, .int .i64 h.sp, .int .i64 h.pu, .int .i64 h.br, .int .i64 h.dr, .int .i64 h.lv, .int .i64 h.dO, .int .i64 h.ld, .int .i64 h.qu]) := F0.out.below hb F0.out.lt; have FB : Hid (Below w.heap.size w w1) := FB.out.trans (hb.mono FB.out.size); clear hb))
  clear d1
  go_upto_region 7 with fail
  have ln0 := F0.out.lt
  obtain ⟨mb, hmb⟩ : ∃ mb, mb = w1.heap.size := ⟨_, rfl⟩
  obtain ⟨W0, hw_⟩ : ∃ W0, W0 = w1.alloc (.map #[] 0) := ⟨_, rfl⟩
  rw [← hmb] at ln0
  have F0 : Hid (Blk W0 w.heap.size [.int .i64 h.fl, .int .i64 h.gp, .int .i64 h.ln, .int .i64 h.rf, .int .i64 h.sp, .int .i64 h.pu, .int .i64 h.br, .int .i64 h.dr, .int .i64 h.lv, .int .i64 h.dO, .int .i64 h.ld, .int .i64 h.qu]) := by rw [hw_]; exact F0.out.alloc _
  have FM : Hid (MapJ W0 mb 0 (.map [])) := by rw [hw_, hmb]; exact ⟨World.ownsMap_made w1 Tryz.prog 2 RV⟩
  have FB : Hid (Below w.heap.size w W0) := by rw [hw_]; exact FB.out.alloc FB.out.size _
  rw [← hw_, ← hmb]
  clear hw_ hmb hmm
  go_wp2_with fail
  go_loopw [8, 26] (fun ll ii wr => ∃ (i : Nat) (D : DataW Value), ii = .int .i64 i ∧ i ≤ l.length ∧ ll = .int .i64 (lastT l i) ∧ trG (Hs.codeI h l) i = 0 ∧ TD D (jOf (l.take i)) ∧ Jt (l.take i) ∧ Blk wr w.heap.size [.int .i64 h.fl, .int .i64 h.gp, .int .i64 h.ln, .int .i64 h.rf, .int .i64 h.sp, .int .i64 h.pu, .int .i64 h.br, .int .i64 h.dr, .int .i64 h.lv, .int .i64 h.dO, .int .i64 h.ld, .int .i64 h.qu] ∧ MapJ wr mb i D ∧ Below w.heap.size w wr) (fun _ ii _ => l.length - (intOf ii).toNat)
  case atStart => exact ⟨0, .map [], rfl, by omega, rfl, rfl, ⟨fun id j hj => by simp [jOf] at hj, fun id _ => rfl⟩, Jt.nil l, F0.out, FM.out, FB.out⟩
  case round =>
    obtain ⟨i, D, rfl, hi, rfl, ht0, htd, hjt, hF0, hFM, hFB⟩ := hrel
    clear F0 FM FB
    have HT : Hid (trG (Hs.codeI h l) i = 0) := ht0
    have HTD : Hid (TD D (jOf (l.take i))) := htd
    have HJT : Hid (Jt (l.take i)) := hjt
    have F0 : Hid (Blk wr w.heap.size [.int .i64 h.fl, .int .i64 h.gp, .int .i64 h.ln, .int .i64 h.rf, .int .i64 h.sp, .int .i64 h.pu, .int .i64 h.br, .int .i64 h.dr, .int .i64 h.lv, .int .i64 h.dO, .int .i64 h.ld, .int .i64 h.qu]) := hF0
    have FM : Hid (MapJ wr mb i D) := hFM
    have FB : Hid (Below w.heap.size w wr) := hFB
    clear ht0 htd hjt hF0 hFM hFB
    by_cases hlt : i < l.length
    · obtain ⟨p, hp⟩ : ∃ p, l[i]? = some p := ⟨_, List.getElem?_eq_getElem hlt⟩
      have HG : Hid (l[i]? = some p) := hp
      rcases HE.out with h0 | ⟨b, o, rfl, hbl, h5⟩
      · rw [h0] at hlt; simp at hlt
      obtain ⟨z0, z1, z2, z3, z4⟩ := (h5 i p hp).below FB.out hbl
      have HC := code_at (h := h) hp
      have hev : Hs.ev h p = Hs.evC h p := by unfold Hs.ev; rw [if_pos hf]
      clear hp h5
      go_upto_region 10 with (refine store_new [.int .i64 p.tk, .int .i64 p.kd, .int .i64 p.id, .int .i64 p.fl, .int .i64 p.tw] 34 _ _ (by kernel_rfl) (by kernel_rfl) (by kernel_rfl) rfl rfl rfl rfl ?_)
      clear z0 z1 z2 z3 z4
      obtain ⟨c, hb_⟩ : ∃ c, c = wr.heap.size := ⟨_, rfl⟩
      obtain ⟨W1, hw_⟩ : ∃ W1, W1 = wr.alloc (.cells #[.int .i64 p.tk, .int .i64 p.kd, .int .i64 p.id, .int .i64 p.fl, .int .i64 p.tw] 34) := ⟨_, rfl⟩
      have ln_c_F0 := F0.out.lt
      have ln_c_FM := FM.out.lt
      rw [← hb_] at ln_c_F0 ln_c_FM
      have F0 : Hid (Blk W1 w.heap.size [.int .i64 h.fl, .int .i64 h.gp, .int .i64 h.ln, .int .i64 h.rf, .int .i64 h.sp, .int .i64 h.pu, .int .i64 h.br, .int .i64 h.dr, .int .i64 h.lv, .int .i64 h.dO, .int .i64 h.ld, .int .i64 h.qu]) := by rw [hw_]; exact F0.out.alloc _
      have FM : Hid (MapJ W1 mb i D) := by rw [hw_]; exact FM.out.alloc _
      have FB : Hid (Below w.heap.size w W1) := by rw [hw_]; exact FB.out.alloc FB.out.size _
      have FE : Hid (Blk W1 c [.int .i64 p.tk, .int .i64 p.kd, .int .i64 p.id, .int .i64 p.fl, .int .i64 p.tw]) := by rw [hw_]; exact Blk.at_ _ _ _ _ hb_
      rw [← hw_, ← hb_]
      clear hw_ hb_
      go_upto_region 11 with (first | (refine load_blk 25 _ Tryz.underlying25 (by kernel_rfl) F0.out rfl rfl rfl ?_) | (refine load_blk 34 _ Tryz.underlying34 (by kernel_rfl) FE.out rfl rfl rfl ?_) | (go_at_call 50; refine (implEvent_any h p _).mono ?_; rw [hev]; rintro e w2 ⟨rfl, hb⟩; have F0 : Hid (Blk w2 w.heap.size [.int .i64 h.fl, .int .i64 h.gp, .int .i64 h.ln, .int .i64 h.rf, .int .i64 h.sp, .int .i64 h.pu, .int .i64 h.br, .int .i64 h.dr, .int .i64 h.lv, .int .i64 h.dO, .int .i64 h.ld, .int .i64 h.qu]) := F0.out.below hb F0.out.lt; have FM : Hid (MapJ w2 mb i D) := FM.out.below hb FM.out.lt; have FB : Hid (Below w.heap.size w w2) := FB.out.trans (hb.mono FB.out.size); have FE : Hid (Blk w2 c [.int .i64 p.tk, .int .i64 p.kd, .int .i64 p.id, .int .i64 p.fl, .int .i64 p.tw]) := FE.out.below hb FE.out.lt; clear hb))
      clear hev
      by_cases c0 : Hs.evC h p = 0
      case neg =>
        have HZ : Hid (Hs.evC h p = K) := by
          rw [if_neg c0] at HC
          show _ = K
          rw [← HV.out, trG_stop HT.out (by rw [HC]; exact c0) hlt, HC]
        have HNZ : Hid (¬ K = 0) := by have q := HZ.out; show ¬ K = 0; omega
        have hn : (Hs.evC h p != 0) = true := by simpa using c0
        clear HC HV HT c0
        go_wp2_with fail
        go_ret2
        exact ⟨⟨.map none, by rw [← HZ.out]; rfl, fun z => absurd z HNZ.out⟩, FB.out⟩
      rw [if_pos c0] at HC
      rw [c0]
      obtain ⟨k1, k2, k3, k4⟩ := evC_kd c0
      have hkd : 1 ≤ p.kd ∧ p.kd ≤ 5 := ⟨k1, k2⟩
      have hid : p.id ≤ 1000000000000000 := evC_id c0
      have hwf : (Lit.int .i64 p.id).wf = true := WalkArith.wf_i64 (by omega)
      have hn : i < maxLen := by unfold maxLen; omega
      have HDM : Hid (IsMap D) := FM.out.isMap
      have y0 := FE.out.c 0 _ rfl
      by_cases c1 : p.tk < lastT l i
      · have dc : decide (p.tk < lastT l i) = true := decide_eq_true c1
        have HZ : Hid ((1 : Int) = K) := by rw [if_pos c1] at HC; show _ = K; rw [← HV.out, trG_stop HT.out (by rw [HC]; decide) hlt, HC]
        have HNZ : Hid (¬ K = 0) := by have q := HZ.out; show ¬ K = 0; omega
        clear HC HV HT
        go_wp2_with fail
        go_ret2
        exact ⟨⟨.map none, by rw [← HZ.out]; rfl, fun z => absurd z HNZ.out⟩, FB.out⟩
      have dc : decide (p.tk < lastT l i) = false := decide_eq_false c1
      rw [if_neg c1] at HC
      obtain ⟨jn, hjn⟩ : ∃ jn, (jOf (l.take i) p.id).getD zeroJn = jn := ⟨_, rfl⟩
      obtain ⟨kn, hkn⟩ : ∃ kn, (jOf (l.take i) p.id).isSome = kn := ⟨_, rfl⟩
      have hlk := look_jn FM.out HTD.out p.id hwf
      rw [hjn, hkn] at hlk
      have HNX : Hid (nextC (if kn = true then some jn.cl else none) jn.st p = nextC (callOf (l.take i) p.id) (stOf (l.take i) p.id) p) := by
        rcases HJT.out.a p.id with ⟨q1, q2⟩ | ⟨jj, q1, q2, q3⟩
        · rw [q1] at hkn
          have : kn = false := hkn.symm
          rw [this, q2, if_neg (by decide)]
          rfl
        · rw [q1] at hkn hjn
          have e1 : kn = true := hkn.symm
          have e2 : jn = jj := hjn.symm
          rw [e1, e2, q2, q3]
          rfl
      have HJ : Hid (∀ id, jOf (l.take (i + 1)) id = if id = p.id then some (goneJ jn p) else jOf (l.take i) id) := fun id => by
        rw [jOf_snoc HG.out]
        by_cases e : id = p.id
        · rw [if_pos e, if_pos e, e, hjn]
        · rw [if_neg e, if_neg e]
      have y2 := FE.out.c 2 _ rfl
      unfold jval jvs at hlk
      go_upto_region 16 with (refine store_new [.int .i64 jn.cl.tk, .int .i64 jn.cl.kd, .int .i64 jn.cl.id, .int .i64 jn.cl.fl, .int .i64 jn.cl.tw, .int .i64 jn.bd, .int .i64 jn.st] 91 _ _ (by kernel_rfl) (by kernel_rfl) (by kernel_rfl) rfl rfl rfl rfl ?_)
      clear y0 y2 hlk dc
      obtain ⟨d, hb_⟩ : ∃ d, d = w2.heap.size := ⟨_, rfl⟩
      obtain ⟨W2, hw_⟩ : ∃ W2, W2 = w2.alloc (.cells #[.int .i64 jn.cl.tk, .int .i64 jn.cl.kd, .int .i64 jn.cl.id, .int .i64 jn.cl.fl, .int .i64 jn.cl.tw, .int .i64 jn.bd, .int .i64 jn.st] 91) := ⟨_, rfl⟩
      have ln_d_F0 := F0.out.lt
      have ln_d_FM := FM.out.lt
      have ln_d_FE := FE.out.lt
      rw [← hb_] at ln_d_F0 ln_d_FM ln_d_FE
      have F0 : Hid (Blk W2 w.heap.size [.int .i64 h.fl, .int .i64 h.gp, .int .i64 h.ln, .int .i64 h.rf, .int .i64 h.sp, .int .i64 h.pu, .int .i64 h.br, .int .i64 h.dr, .int .i64 h.lv, .int .i64 h.dO, .int .i64 h.ld, .int .i64 h.qu]) := by rw [hw_]; exact F0.out.alloc _
      have FM : Hid (MapJ W2 mb i D) := by rw [hw_]; exact FM.out.alloc _
      have FB : Hid (Below w.heap.size w W2) := by rw [hw_]; exact FB.out.alloc FB.out.size _
      have FE : Hid (Blk W2 c [.int .i64 p.tk, .int .i64 p.kd, .int .i64 p.id, .int .i64 p.fl, .int .i64 p.tw]) := by rw [hw_]; exact FE.out.alloc _
      have FW : Hid (Blk W2 d [.int .i64 jn.cl.tk, .int .i64 jn.cl.kd, .int .i64 jn.cl.id, .int .i64 jn.cl.fl, .int .i64 jn.cl.tw, .int .i64 jn.bd, .int .i64 jn.st]) := by rw [hw_]; exact Blk.at_ _ _ _ _ hb_
      rw [← hw_, ← hb_]
      clear hw_ hb_
      obtain ⟨N, hN⟩ : ∃ N, nextC (callOf (l.take i) p.id) (stOf (l.take i) p.id) p = N := ⟨_, rfl⟩
      rw [hN] at HC HNX
      go_upto_region 17 with (first | (refine load_blk 91 _ Tryz.underlying91 (by kernel_rfl) FW.out rfl rfl rfl ?_) | (refine load_blk 34 _ Tryz.underlying34 (by kernel_rfl) FE.out rfl rfl rfl ?_) | (go_at_call 51; refine (stepFault_any jn kn p hkd.1 hkd.2 _).mono ?_; rw [HNX.out]; rintro e W3 ⟨rfl, hb⟩; have F0 : Hid (Blk W3 w.heap.size [.int .i64 h.fl, .int .i64 h.gp, .int .i64 h.ln, .int .i64 h.rf, .int .i64 h.sp, .int .i64 h.pu, .int .i64 h.br, .int .i64 h.dr, .int .i64 h.lv, .int .i64 h.dO, .int .i64 h.ld, .int .i64 h.qu]) := F0.out.below hb F0.out.lt; have FM : Hid (MapJ W3 mb i D) := FM.out.below hb FM.out.lt; have FB : Hid (Below w.heap.size w W3) := FB.out.trans (hb.mono FB.out.size); have FE : Hid (Blk W3 c [.int .i64 p.tk, .int .i64 p.kd, .int .i64 p.id, .int .i64 p.fl, .int .i64 p.tw]) := FE.out.below hb FE.out.lt; have FW : Hid (Blk W3 d [.int .i64 jn.cl.tk, .int .i64 jn.cl.kd, .int .i64 jn.cl.id, .int .i64 jn.cl.fl, .int .i64 jn.cl.tw, .int .i64 jn.bd, .int .i64 jn.st]) := FW.out.below hb FW.out.lt; clear hb))
      by_cases n0 : N = 0
      · have b0 : (N != 0) = false := by simpa using n0
        have HT2 : Hid (trG (Hs.codeI h l) (i + 1) = 0) := trG_next HT.out (by rw [HC, n0])
        have HJ2 : Hid (Jt (l.take (i + 1))) := HJT.out.next (h := h) HG.out (by rw [HC, n0])
        have hlast : lastT l (i + 1) = p.tk := by show (match l[i]? with | some q => q.tk | none => 0) = _; rw [HG.out]
        go_upto_region 19 with fail
        have F0 : Hid (Blk W3.drew w.heap.size [.int .i64 h.fl, .int .i64 h.gp, .int .i64 h.ln, .int .i64 h.rf, .int .i64 h.sp, .int .i64 h.pu, .int .i64 h.br, .int .i64 h.dr, .int .i64 h.lv, .int .i64 h.dO, .int .i64 h.ld, .int .i64 h.qu]) := F0.out.below (Below.refl _ _).drew F0.out.lt
        have FM : Hid (MapJ W3.drew mb i D) := FM.out.below (Below.refl _ _).drew FM.out.lt
        have FE : Hid (Blk W3.drew c [.int .i64 p.tk, .int .i64 p.kd, .int .i64 p.id, .int .i64 p.fl, .int .i64 p.tw]) := FE.out.below (Below.refl _ _).drew FE.out.lt
        have FW : Hid (Blk W3.drew d [.int .i64 jn.cl.tk, .int .i64 jn.cl.kd, .int .i64 jn.cl.id, .int .i64 jn.cl.fl, .int .i64 jn.cl.tw, .int .i64 jn.bd, .int .i64 jn.st]) := FW.out.below (Below.refl _ _).drew FW.out.lt
        have FB : Hid (Below w.heap.size w W3.drew) := FB.out.drew
        refine wp_region_held_drew (S := (fun w'' => Blk w'' c ([.int .i64 p.tk, .int .i64 p.kd, .int .i64 p.id, .int .i64 p.fl, .int .i64 p.tw]) ∧ Blk w'' d ([.int .i64 jn.cl.tk, .int .i64 jn.cl.kd, .int .i64 jn.cl.id, .int .i64 jn.cl.fl, .int .i64 jn.cl.tw, .int .i64 jn.bd, .int .i64 jn.st]))) (by kernel_rfl) (by (try dsimp only); first | exact ⟨FE.out, FW.out⟩ | go_keep) (fun hHeld => ?_)
        obtain ⟨v_1, hw1⟩ : ∃ v_1, v_1 = W3.drew := ⟨_, rfl⟩
        have F0 : Hid (Blk v_1 w.heap.size [.int .i64 h.fl, .int .i64 h.gp, .int .i64 h.ln, .int .i64 h.rf, .int .i64 h.sp, .int .i64 h.pu, .int .i64 h.br, .int .i64 h.dr, .int .i64 h.lv, .int .i64 h.dO, .int .i64 h.ld, .int .i64 h.qu]) := by rw [hw1]; exact F0.out
        have FM : Hid (MapJ v_1 mb i D) := by rw [hw1]; exact FM.out
        have FE : Hid (Blk v_1 c [.int .i64 p.tk, .int .i64 p.kd, .int .i64 p.id, .int .i64 p.fl, .int .i64 p.tw]) := by rw [hw1]; exact FE.out
        have FW : Hid (Blk v_1 d [.int .i64 jn.cl.tk, .int .i64 jn.cl.kd, .int .i64 jn.cl.id, .int .i64 jn.cl.fl, .int .i64 jn.cl.tw, .int .i64 jn.bd, .int .i64 jn.st]) := by rw [hw1]; exact FW.out
        have FB : Hid (Below w.heap.size w v_1) := by rw [hw1]; exact FB.out
        rw [← hw1] at hHeld ⊢
        clear hw1
        refine tkz 0 rfl ?_
        refine tkz 1 rfl ?_
        refine tkz 2 rfl ?_ (hy := Or.inl ⟨by kernel_rfl, by (intro wx hSw; have hq0_2 := hSw.1.c 2 _ rfl; (try dsimp only at hSw); go_simp <;> with_reducible rfl)⟩)
        refine tkz 3 rfl ?_ (hy := Or.inl ⟨by kernel_rfl, fun wx hSw => exec_load_blk 91 _ Tryz.underlying91 (by kernel_rfl) rfl rfl hSw.2⟩)
        refine tkz 4 rfl ?_ (hy := Or.inl ⟨by kernel_rfl, fun wx hSw => exec_load_blk 34 _ Tryz.underlying34 (by kernel_rfl) rfl rfl hSw.1⟩)
        refine tkz 6 rfl ?_
        refine tkz 7 rfl ?_ (hy := Or.inl ⟨by kernel_rfl, by (intro wx hSw; have hq0_0 := hSw.1.c 0 _ rfl; (try dsimp only at hSw); go_simp <;> with_reducible rfl)⟩)
        refine wpAnyH_ready (rs := [5]) (by kernel_rfl) (by simp) ?_
        refine (AllReadyH.cons rfl (fun K hK => ?_) AllReadyH.nil)
        go_simp
        refine (goneOn_any jn p hkd.1 hkd.2 _).mono ?_
        rintro e v_2 ⟨rfl, hb⟩
        have F0 : Hid (Blk v_2 w.heap.size [.int .i64 h.fl, .int .i64 h.gp, .int .i64 h.ln, .int .i64 h.rf, .int .i64 h.sp, .int .i64 h.pu, .int .i64 h.br, .int .i64 h.dr, .int .i64 h.lv, .int .i64 h.dO, .int .i64 h.ld, .int .i64 h.qu]) := F0.out.below hb F0.out.lt
        have FM : Hid (MapJ v_2 mb i D) := FM.out.below hb FM.out.lt
        have FE : Hid (Blk v_2 c [.int .i64 p.tk, .int .i64 p.kd, .int .i64 p.id, .int .i64 p.fl, .int .i64 p.tw]) := FE.out.below hb FE.out.lt
        have FW : Hid (Blk v_2 d [.int .i64 jn.cl.tk, .int .i64 jn.cl.kd, .int .i64 jn.cl.id, .int .i64 jn.cl.fl, .int .i64 jn.cl.tw, .int .i64 jn.bd, .int .i64 jn.st]) := FW.out.below hb FW.out.lt
        have FB : Hid (Below w.heap.size w v_2) := FB.out.trans (hb.mono FB.out.size)
        clear hb
        try dsimp only
        refine hK.out _ _ (by (try dsimp only); first | exact ⟨FE.out, FW.out⟩ | go_keep) (fun hHeld => ?_)
        clear hK K
        try simp only [Act.put, List.getElem_toArray, List.getElem_cons_succ, List.getElem_cons_zero, List.setIfInBounds_toArray, List.set_cons_zero, List.set_cons_succ]
        refine wpAnyH_ready (rs := [8]) (by kernel_rfl) (by simp) ?_
        refine (AllReadyH.cons rfl (fun K hK => ?_) AllReadyH.nil)
        refine step_ev rfl ?_
        refine wp_mapEntry mb i D p.id rfl rfl FM.out hn hwf ?_
        intro vq st v_3 hpd hgr
        have F0 : Hid (Blk v_3 w.heap.size [.int .i64 h.fl, .int .i64 h.gp, .int .i64 h.ln, .int .i64 h.rf, .int .i64 h.sp, .int .i64 h.pu, .int .i64 h.br, .int .i64 h.dr, .int .i64 h.lv, .int .i64 h.dO, .int .i64 h.ld, .int .i64 h.qu]) := F0.out.grown hgr (fun z => by have z2 := Option.some.inj z; omega)
        have FE : Hid (Blk v_3 c [.int .i64 p.tk, .int .i64 p.kd, .int .i64 p.id, .int .i64 p.fl, .int .i64 p.tw]) := FE.out.grown hgr (fun z => by have z2 := Option.some.inj z; omega)
        have FW : Hid (Blk v_3 d [.int .i64 jn.cl.tk, .int .i64 jn.cl.kd, .int .i64 jn.cl.id, .int .i64 jn.cl.fl, .int .i64 jn.cl.tw, .int .i64 jn.bd, .int .i64 jn.st]) := FW.out.grown hgr (fun z => by have z2 := Option.some.inj z; omega)
        have FB : Hid (Below w.heap.size w v_3) := FB.out.grown hgr FB.out.size (fun q hq => by cases hq; omega)
        have FPd : Hid (Pend v_3 mb i D (.int .i64 p.id) st) := hpd
        clear hpd hgr
        refine hK.out _ _ (by (try dsimp only); first | exact ⟨FE.out, FW.out⟩ | go_keep) (fun hHeld => ?_)
        clear hK K
        try simp only [Act.put, List.getElem_toArray, List.getElem_cons_succ, List.getElem_cons_zero, List.setIfInBounds_toArray, List.set_cons_zero, List.set_cons_succ]
        refine tkz 9 rfl ?_
        refine wpAnyH_ready (rs := [10]) (by kernel_rfl) (by simp) ?_
        refine (AllReadyH.cons rfl (fun K hK => ?_) AllReadyH.nil)
        refine step_ev rfl ?_
        refine wp_entryStore mb i D p.id st (jval (goneJ jn p)) rfl rfl rfl FPd.out ?_
        intro v_4 hmj hgr
        have F0 : Hid (Blk v_4 w.heap.size [.int .i64 h.fl, .int .i64 h.gp, .int .i64 h.ln, .int .i64 h.rf, .int .i64 h.sp, .int .i64 h.pu, .int .i64 h.br, .int .i64 h.dr, .int .i64 h.lv, .int .i64 h.dO, .int .i64 h.ld, .int .i64 h.qu]) := F0.out.grown hgr (fun z => by have z2 := Option.some.inj z; omega)
        have FE : Hid (Blk v_4 c [.int .i64 p.tk, .int .i64 p.kd, .int .i64 p.id, .int .i64 p.fl, .int .i64 p.tw]) := FE.out.grown hgr (fun z => by have z2 := Option.some.inj z; omega)
        have FW : Hid (Blk v_4 d [.int .i64 jn.cl.tk, .int .i64 jn.cl.kd, .int .i64 jn.cl.id, .int .i64 jn.cl.fl, .int .i64 jn.cl.tw, .int .i64 jn.bd, .int .i64 jn.st]) := FW.out.grown hgr (fun z => by have z2 := Option.some.inj z; omega)
        have FB : Hid (Below w.heap.size w v_4) := FB.out.grown hgr FB.out.size (fun q hq => by cases hq; omega)
        have FM : Hid (MapJ v_4 mb (i + 1) (D.put (.int .i64 p.id) (.held (jval (goneJ jn p))))) := hmj
        clear hmj hgr
        refine hK.out _ _ (by (try dsimp only); first | exact ⟨FE.out, FW.out⟩ | go_keep) (fun hHeld => ?_)
        clear hK K
        try simp only [Act.put, List.getElem_toArray, List.getElem_cons_succ, List.getElem_cons_zero, List.setIfInBounds_toArray, List.set_cons_zero, List.set_cons_succ]
        refine tkz 11 rfl ?_
        refine wpAnyH_done (by kernel_rfl) ?_ _
        obtain ⟨w9, hw9⟩ : ∃ w9, w9 = v_4 := ⟨_, rfl⟩
        subst hw9
        have HTD2 : Hid (TD (D.put (.int .i64 p.id) (.held (jval (goneJ jn p)))) (jOf (l.take (i + 1)))) := by
          have q := HTD.out.put (HDM.out) p.id (goneJ jn p)
          have e : jOf (l.take (i + 1)) = fun id => if id = p.id then some (goneJ jn p) else jOf (l.take i) id := funext HJ.out
          rw [e]
          exact q
        go_wp2_with fail
        go_roundw
        case rel => exact ⟨i + 1, _, by simp, by omega, by rw [hlast], HT2.out, HTD2.out, HJ2.out, F0.out, FM.out, FB.out⟩
        case measure => simp [intOf]; omega
      · have b0 : (N != 0) = true := by simpa using n0
        have HZ : Hid (N = K) := by show _ = K; rw [← HV.out, trG_stop HT.out (by rw [HC]; exact n0) hlt, HC]
        have HNZ : Hid (¬ K = 0) := by have q := HZ.out; show ¬ K = 0; omega
        go_wp2_with fail
        go_ret2
        exact ⟨⟨.map none, by rw [← HZ.out]; rfl, fun z => absurd z HNZ.out⟩, FB.out⟩
    · have ei : i = l.length := by omega
      subst ei
      have HZ : Hid ((0 : Int) = K) := HT.out.symm.trans HV.out
      have lm : w.heap.size ≤ mb := by omega
      have HTe : Hid (TD D (jOf l)) := by have q := HTD.out; rw [List.take_of_length_le (Nat.le_refl _)] at q; exact q
      have HJe : Hid (Jt l) := by have q := HJT.out; rw [List.take_of_length_le (Nat.le_refl _)] at q; exact q
      go_wp2_with fail
      go_ret2
      exact ⟨⟨.map (some mb), by rw [← HZ.out]; rfl, fun _ => ⟨mb, D, rfl, lm, FM.out, HTe.out, HJe.out⟩⟩, FB.out⟩
set_option maxRecDepth 20000 in
set_option maxHeartbeats 16000000 in
theorem implTrace_any (h : Hs) (l : List Ev) (a : Option Addr) (cap : Nat) (hl : l.length ≤ 1048576) (w : World) (hE : EIn w w.heap.size a l) :
    Calls Tryz.prog 10 #[.agg #[.int .i64 h.fl, .int .i64 h.gp, .int .i64 h.ln, .int .i64 h.rf, .int .i64 h.sp, .int .i64 h.pu, .int .i64 h.br, .int .i64 h.dr, .int .i64 h.lv, .int .i64 h.dO, .int .i64 h.ld, .int .i64 h.qu], .slice a l.length cap] w fun r w' => r = .returned (.int .i64 (Hs.tr h l)) ∧ Below w.heap.size w w' := by
  have HE : Hid (EIn w w.heap.size a l) := hE
  clear hE
  have F0 : Hid (Blk (w.alloc (.cells #[.int .i64 h.fl, .int .i64 h.gp, .int .i64 h.ln, .int .i64 h.rf, .int .i64 h.sp, .int .i64 h.pu, .int .i64 h.br, .int .i64 h.dr, .int .i64 h.lv, .int .i64 h.dO, .int .i64 h.ld, .int .i64 h.qu] 25)) w.heap.size [.int .i64 h.fl, .int .i64 h.gp, .int .i64 h.ln, .int .i64 h.rf, .int .i64 h.sp, .int .i64 h.pu, .int .i64 h.br, .int .i64 h.dr, .int .i64 h.lv, .int .i64 h.dO, .int .i64 h.ld, .int .i64 h.qu]) := Blk.at_ w _ _ _ rfl
  have FB : Hid (Below w.heap.size w (w.alloc (.cells #[.int .i64 h.fl, .int .i64 h.gp, .int .i64 h.ln, .int .i64 h.rf, .int .i64 h.sp, .int .i64 h.pu, .int .i64 h.br, .int .i64 h.dr, .int .i64 h.lv, .int .i64 h.dO, .int .i64 h.ld, .int .i64 h.qu] 25))) := (Below.refl _ _).alloc (Nat.le_refl _) _
  go_enter Tryz.func10, Tryz.ntmps10
  go_wp2_with (first | (refine load_blk 25 _ Tryz.underlying25 (by kernel_rfl) F0.out rfl rfl rfl ?_) | (go_at_call 26; refine (journeysIn_any h l a cap hl _ ((HE.out.below FB.out (Nat.le_refl _)).mono FB.out.size)).mono ?_; rintro e w1 ⟨⟨v, rfl, -⟩, hb⟩; have FB : Hid (Below w.heap.size w w1) := FB.out.trans (hb.mono FB.out.size); clear hb))
  go_ret
  exact ⟨rfl, FB.out⟩
end Go.Proofs.YtoacnglcneliiaaGreatDoor
