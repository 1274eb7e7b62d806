/-
  The program's ledger: a free place.
-/
import Derived.Test.YtcjfaimhggckmaaLedF
import Derived.Test.YtcjfaimhggckmaaLedA
import Derived.Test.YtcjfaimhggckmaaPersJ
import Derived.Deep.RegionHeld3
import Derived.BigGuardPart
namespace Go.Proofs.Ytcjfaimhggckmaa
open Go.RowKit Pl
set_option linter.unusedSimpArgs false
set_option linter.unusedVariables false

theorem step_of {P : Program} {ops : Array Oper} {o : Oper} {a : Act} {w : World} {K : Act → World → Prop} {Q : Exit → Act → World → Prop} {E : Prop} (hg : o.guard = none) (h : Oper.wp P o a w K Q) : if Region.wanted o (yielded ops a.tmps) = true then Oper.wp P o a w K Q else E := by
  rw [if_pos (by simp [Region.wanted, hg])]
  exact h
/-- The first who neither waits nor rides. -/
def fi : List Pe → Nat
  | [] => 0
  | p :: l => if doneB p = true then 0 else fi l + 1
theorem fi_le (l : List Pe) : fi l ≤ l.length := by
  induction l with
  | nil => exact Nat.le_refl _
  | cons p l ih =>
    unfold fi
    split
    · simp
    · simp; exact ih
theorem fi_eq {l : List Pe} {i : Nat} {p : Pe} (h : l[i]? = some p) (hd : doneB p = true) (hn : ∀ (j : Nat) (q : Pe), j < i → l[j]? = some q → doneB q = false) : fi l = i := by
  induction l generalizing i with
  | nil => simp at h
  | cons q l ih =>
    cases i with
    | zero =>
      simp at h
      subst h
      exact if_pos hd
    | succ i =>
      have q0 := hn 0 q (by omega) (by simp)
      unfold fi
      rw [if_neg (by rw [q0]; simp), ih (by simpa using h) (fun j r hj hr => hn (j + 1) r (by omega) (by simpa using hr))]
theorem fi_all {l : List Pe} (hn : ∀ (j : Nat) (q : Pe), l[j]? = some q → doneB q = false) : fi l = l.length := by
  induction l with
  | nil => rfl
  | cons q l ih =>
    have q0 := hn 0 q (by simp)
    unfold fi
    rw [if_neg (by rw [q0]; simp), ih (fun j r hr => hn (j + 1) r (by simpa using hr))]
    rfl
def fiR (l : List Pe) : Int := if fi l < l.length then (fi l : Int) else -1
set_option maxRecDepth 20000 in
set_option maxHeartbeats 8000000 in
theorem isFull_any (l : List Pe) (a : Option Addr) (cap : Nat) (hl : l.length ≤ 1048576) (w : World) :
    Calls Try.prog 20 #[.slice a l.length cap] w fun e w' => e = .returned (.bool (decide (l.length = 60))) ∧ w' = w := by
  by_cases c : l.length = 60
  · have b : ((l.length : Int) == 60) = true := by simp; omega
    go_enter Try.func20, Try.ntmps20
    go_wp2
    go_ret
    exact ⟨ret_b (by simp [c]), rfl⟩
  · have b : ((l.length : Int) == 60) = false := by simp; omega
    go_enter Try.func20, Try.ntmps20
    go_wp2
    go_ret
    exact ⟨ret_b (by simp [c]), rfl⟩
set_option maxRecDepth 20000 in
set_option maxHeartbeats 16000000 in
theorem indexFunc_any (l : List Pe) (a : Option Addr) (cap : Nat) (hl : l.length ≤ 1048576) (w : World) (hP : PIn w w.heap.size a l) :
    Calls Try.prog 39 #[.slice a l.length cap, .func (.func 22) #[] #[]] w fun e w' => e = .returned (.int .i64 (fiR l)) ∧ Below w.heap.size w w' := by
  have HP : Hid (PIn w w.heap.size a l) := hP
  clear hP
  obtain ⟨r, hr⟩ : ∃ r, fiR l = r := ⟨_, rfl⟩
  rw [hr]
  have HR : Hid (fiR l = r) := hr
  clear hr
  go_enter Try.func39, Try.ntmps39
  go_wp2_with fail
  go_loopw [8] (fun ii wr => ∃ i : Nat, ii = .int .i64 i ∧ i ≤ l.length ∧ (∀ (j : Nat) (q : Pe), j < i → l[j]? = some q → doneB q = false) ∧ Below w.heap.size w wr) (fun ii _ => l.length - (intOf ii).toNat)
  case atStart => exact ⟨0, rfl, by omega, fun j q hj => absurd hj (by omega), Below.refl _ _⟩
  case round =>
    obtain ⟨i, rfl, hi, hn, hb⟩ := hrel
    have FB : Hid (Below w.heap.size w wr) := hb
    have HN : Hid (∀ (j : Nat) (q : Pe), j < i → l[j]? = some q → doneB q = false) := hn
    clear hb hn
    by_cases hlt : i < l.length
    · obtain ⟨p, hp⟩ : ∃ p, l[i]? = some p := ⟨_, List.getElem?_eq_getElem hlt⟩
      have H0 : Hid (l[i]? = some p) := hp
      rcases HP.out with h0 | ⟨b, o, ha, hbl, h7⟩
      · rw [h0] at hlt; simp at hlt
      obtain ⟨c0, c1, c2, c3, c4, c5, c6⟩ := (h7 i p hp).below FB.out hbl
      subst ha
      clear h7 hp
      cases kd : doneB p
      · have HN2 : Hid (∀ (j : Nat) (q : Pe), j < i + 1 → l[j]? = some q → doneB q = false) := by
          intro j q hj hq
          by_cases e : j = i
          · subst e
            rw [H0.out] at hq
            cases hq
            exact kd
          · exact HN.out j q (by omega) hq
        go_wp2_with (go_at_call 22; refine (isDone_any p _).mono ?_; rw [kd]; rintro e w2 ⟨rfl, hb⟩; have FB : Hid (Below w.heap.size w w2) := FB.out.trans (hb.mono FB.out.size); clear hb)
        go_roundw
        case rel => exact ⟨i + 1, by simp, by omega, HN2.out, FB.out⟩
        case measure => simp [intOf]; omega
      · have HV : Hid ((i : Int) = r) := by
          rw [← HR.out]
          unfold fiR
          rw [fi_eq H0.out kd HN.out, if_pos hlt]
          exact rfl
        go_wp2_with (go_at_call 22; refine (isDone_any p _).mono ?_; rw [kd]; rintro e w2 ⟨rfl, hb⟩; have FB : Hid (Below w.heap.size w w2) := FB.out.trans (hb.mono FB.out.size); clear hb)
        go_ret
        exact ⟨ret_int HV.out, FB.out⟩
    · have ei : i = l.length := by omega
      subst ei
      have HV : Hid ((-1 : Int) = r) := by
        rw [← HR.out]
        unfold fiR
        rw [fi_all (fun j q hq => HN.out j q (List.getElem?_eq_some_iff.1 hq).1 hq), if_neg (by omega)]
        exact rfl
      go_wp2_with fail
      go_ret
      exact ⟨ret_int HV.out, FB.out⟩
set_option maxRecDepth 20000 in
set_option maxHeartbeats 16000000 in
theorem containsFunc_any (l : List Pe) (a : Option Addr) (cap : Nat) (hl : l.length ≤ 1048576) (w : World) (hP : PIn w w.heap.size a l) :
    Calls Try.prog 21 #[.slice a l.length cap, .func (.func 22) #[] #[]] w fun e w' => e = .returned (.bool (decide (fi l < l.length))) ∧ Below w.heap.size w w' := by
  obtain ⟨r, hr⟩ : ∃ r, fiR l = r := ⟨_, rfl⟩
  have CI := indexFunc_any l a cap hl w hP
  rw [hr] at CI
  by_cases c : fi l < l.length
  · have b : decide (0 ≤ r) = true := decide_eq_true (by rw [← hr]; unfold fiR; rw [if_pos c]; omega)
    clear hr
    go_enter Try.func21, Try.ntmps21
    go_wp2_with (go_at_call 39; refine CI.mono ?_; rintro e w1 ⟨rfl, hb⟩; have FB : Hid (Below w.heap.size w w1) := hb; clear hb)
    go_ret
    exact ⟨ret_b (by simp [c]), FB.out⟩
  · have b : decide (0 ≤ r) = false := decide_eq_false (by rw [← hr]; unfold fiR; rw [if_neg c]; omega)
    clear hr
    go_enter Try.func21, Try.ntmps21
    go_wp2_with (go_at_call 39; refine CI.mono ?_; rintro e w1 ⟨rfl, hb⟩; have FB : Hid (Below w.heap.size w w1) := hb; clear hb)
    go_ret
    exact ⟨ret_b (by simp [c]), FB.out⟩
/-- A row, cut at its head. -/
theorem cut_from (b o k n cap : Nat) (z : Int) (hz : z = (k : Int)) (hk : k ≤ n) : ∃ dp : Option Addr, (k < cap → dp = some ⟨b, o + k * 7, none⟩) ∧ ∀ w, (Instr.slice 26 (.slice (some ⟨b, o, none⟩) n cap) (some (.int .i64 z)) none none).run Try.prog w = .ok (.slice dp (n - k) (cap - k)) w := by
  subst hz
  obtain ⟨i, hi, h0, hs, hb⟩ := info_parts infoPE
  have he : Try.prog.elem 26 = 35 := by kernel_rfl
  have hu : Try.prog.underlying 26 = some (.slice (Try.prog.elem 26)) := by rw [he]; exact undPS
  have hsz : ∀ w, (sizeOf (Try.prog.elem 26)).run Try.prog w = .ok 7 w := by
    intro w
    rw [he]
    simp [sizeOf, typeInfo, hi, hs]
  by_cases c : k < cap
  · refine ⟨some ⟨b, o + k * 7, none⟩, fun _ => rfl, fun w => ?_⟩
    have c2 : ¬ cap ≤ k := by omega
    have c3 : ¬ cap - k = 0 := by omega
    rw [run_slice_l _ _ _ _ _ hu .i64 (k : Int) (by omega) (by omega), hsz w]
    simp [Result.andThen, sliced, Addr.add, c, c2, c3]
    rw [if_neg (by omega)]
    by_cases e : k * 7 = 0
    · simp [e]
    · simp [e]
  · refine ⟨(if cap = k then some ⟨b, o, none⟩ else (some (⟨b, o, none⟩ : Addr)).map (·.add (k * 7))), fun h => absurd h c, fun w => ?_⟩
    rw [run_slice_l _ _ _ _ _ hu .i64 (k : Int) (by omega) (by omega), hsz w, Int.toNat_natCast]
    rfl
theorem wp_copy_ow {w : World} {a : Act} {K : Act → World → Prop} {Q : Exit → Act → World → Prop} {d s : Operand} {dst : Option Tmp} {ty : TypeId} {ps : String} {af : Array Edge}
    (B g n cap : Nat) (l : List Pe) (hO : Ow w B g n cap l) (k : Nat) (m : List Pe) (dp sp : Option Addr) (dLen dCap sLen sCap : Nat) (hd : a.eval d = .slice dp dLen dCap) (hs : a.eval s = .slice sp sLen sCap) (hm : m.length = Nat.min sLen dLen)
    (hpos : 0 < m.length → dp = some ⟨g, k * 7, none⟩ ∧ ∃ b f, sp = some ⟨b, f, none⟩ ∧ ∀ i p, m[i]? = some p → P7 w b (f + i * 7) p) (hfit : k + m.length ≤ n)
    (h : ∀ w', Ow w' B g n cap (l.take k ++ (m ++ l.drop (k + m.length))) → w.grownBy w' (some g) → K (a.put dst (goInt m.length)) w') : Oper.wp Try.prog { dst := dst, op := .call { callee := .builtin .copy, args := #[d, s], argTypes := #[26, 26] }, type := ty, pos := ps, after := af, guard := none } a w K Q := by
  by_cases h0 : m.length = 0
  · have hrun := run_copy_zero (P := Try.prog) w 26 26 ty 35 7 dp sp dLen dCap sLen sCap undPS infoPE7 (by omega)
    have e : m = [] := List.eq_nil_of_length_eq_zero h0
    subst e
    have q := h w (by simpa using hO) (World.grownBy.refl w _)
    unfold Oper.wp
    simp [execOp, resolve, invoke, builtin, hd, hs, hrun, Result.andThen]
    exact q
  · obtain ⟨rfl, b, f, rfl, h7⟩ := hpos (by omega)
    obtain ⟨cur, hg, hfi, hO'⟩ := hO.spliced k m hfit
    have hrun := run_copy_rows (P := Try.prog) w 26 26 ty 35 7 g (k * 7) dLen dCap ⟨b, f, none⟩ sLen sCap cur 35 (flat m) undPS infoPE7 hg (by rw [flat_length, hm]) (news_at h7) hfi (flat_one m)
    rw [← hm] at hrun
    have q := h _ hO' (grown_row _)
    unfold Oper.wp
    simp [execOp, resolve, invoke, builtin, hd, hs, hrun, Result.andThen]
    have q2 : K (a.put dst (goInt m.length)) (w.setRow g (List.take (k * 7) cur.toList ++ (flat m ++ List.drop (k * 7 + (flat m).length) cur.toList)).toArray) := by simpa using q
    exact q2
theorem Ow.nlt {w : World} {B g n cap : Nat} {l : List Pe} (h : Ow w B g n cap l) : g < w.heap.size := h.bl.2
def forg (k : Nat) (l : List Pe) : List Pe := l.take k ++ (l.drop (k + 1) ++ l.drop (k + (l.drop (k + 1)).length))
theorem forg_clear {k : Nat} {l : List Pe} (hk : k < l.length) : (forg k l).take (l.length - 1) ++ ([zeroP] ++ (forg k l).drop (l.length - 1 + 1)) = l.eraseIdx k ++ [zeroP] := by
  have e : forg k l = l.eraseIdx k ++ l.drop (l.length - 1) := by
    unfold forg
    rw [List.eraseIdx_eq_take_drop_succ, List.append_assoc, List.length_drop, show k + (l.length - (k + 1)) = l.length - 1 by omega]
  have z : (l.eraseIdx k).length = l.length - 1 := by rw [List.length_eraseIdx, if_pos hk]
  have z2 : (forg k l).length = l.length := by rw [e, List.length_append, z, List.length_drop]; omega
  rw [List.drop_eq_nil_of_le (by omega), e, List.take_left' z]
  simp
set_option maxRecDepth 20000 in
set_option maxHeartbeats 16000000 in
theorem forget_any (B g : Nat) (l : List Pe) (hl : l.length ≤ 60) (k : Nat) (hfi : fi l = k) (hk : k < l.length) (w : World) (ho : Ow w B g l.length l.length l) :
    Calls Try.prog 41 #[.slice (some ⟨g, 0, none⟩) l.length l.length] w fun e w' => e = .returned (.tuple #[]) ∧ Ow w' B g l.length l.length (l.eraseIdx k ++ [zeroP]) ∧ w.grownBy w' (some g) := by
  have er : fiR l = (k : Int) := by unfold fiR; rw [hfi, if_pos hk]
  have FO : Hid (Ow w B g l.length l.length l) := ho
  obtain ⟨d1, D1_, hc1⟩ := cut_from g 0 k l.length l.length (k : Int) rfl (by omega)
  obtain ⟨d2, D2_, hc2⟩ := cut_from g 0 (k + 1) l.length l.length ((k : Int) + 1) (by omega) (by omega)
  obtain ⟨d3, D3_, hc3⟩ := cut_from g 0 (l.length - 1) l.length l.length ((l.length : Int) - 1) (by omega) (by omega)
  have D1 : Hid (k < l.length → d1 = some ⟨g, 0 + k * 7, none⟩) := D1_
  have D2 : Hid (k + 1 < l.length → d2 = some ⟨g, 0 + (k + 1) * 7, none⟩) := D2_
  have e3 : d3 = some ⟨g, (l.length - 1) * 7, none⟩ := by rw [D3_ (by omega), Nat.zero_add]
  subst e3
  have ew1 : IntKind.i64.wrap ((k : Int) + 1) = (k : Int) + 1 := IntWalk.i64_in _ (by omega)
  have ew2 : IntKind.i64.wrap ((l.length : Int) - 1) = (l.length : Int) - 1 := IntWalk.i64_in _ (by omega)
  have e1 : l.length - (l.length - 1) = 1 := by omega
  rw [e1] at hc3
  clear ho D1_ D2_ D3_ hfi e1
  go_enter Try.func41, Try.ntmps41
  go_upto_region 1 with (go_at_call 39; refine (indexFunc_any l (some ⟨g, 0, none⟩) l.length (by omega) _ (FO.out.pin FO.out.bl.2)).mono ?_; rw [er]; rintro e w1 ⟨rfl, hb⟩; have FO : Hid (Ow w1 B g l.length l.length l) := FO.out.below hb FO.out.bl.2; have FG : Hid (w.grownBy w1 (some g)) := gr_below (World.grownBy.refl w _) hb; clear hb)
  have FO : Hid (Ow w1.drew B g l.length l.length l) := FO.out.below (Below.refl _ _).drew FO.out.lt
  have FG : Hid (w.grownBy w1.drew (some g)) := gr_drew FG.out
  refine wp_region_held_drew (S := (fun _ => True)) (by kernel_rfl) (by (try dsimp only); all_goals trivial) (fun hHeld => ?_)
  obtain ⟨v_1, hw1⟩ : ∃ v_1, v_1 = w1.drew := ⟨_, rfl⟩
  have FO : Hid (Ow v_1 B g l.length l.length l) := by rw [hw1]; exact FO.out
  have FG : Hid (w.grownBy v_1 (some g)) := by rw [hw1]; exact FG.out
  rw [← hw1]
  clear hw1
  refine tkz 0 rfl ?_
  refine tkz 1 rfl ?_
  refine tkz 2 rfl ?_
  refine tkz 3 rfl ?_
  refine tkz 4 rfl ?_
  refine tkz 5 rfl ?_
  refine tkz 6 rfl ?_
  refine wpAnyH_ready (rs := [7]) (by kernel_rfl) (by simp) ?_
  refine (AllReadyH.cons rfl (fun K hK => ?_) AllReadyH.nil)
  refine step_of rfl ?_
  refine wp_copy_ow B g l.length l.length l FO.out k (l.drop (k + 1)) d1 d2 (l.length - k) (l.length - k) (l.length - (k + 1)) (l.length - (k + 1)) rfl rfl (by rw [List.length_drop]; exact (Nat.min_eq_left (by omega)).symm) (fun hpos => ⟨by rw [D1.out (by omega), Nat.zero_add], g, 0 + (k + 1) * 7, D2.out (by rw [List.length_drop] at hpos; omega), fun i p hp => by rw [List.getElem?_drop] at hp; have q := FO.out.p7 hp; rw [Nat.zero_add, ← Nat.add_mul]; exact q⟩) (by rw [List.length_drop]; omega) ?_
  intro v_2 ho hg
  have FG : Hid (w.grownBy v_2 (some g)) := grown_trans FG.out hg
  have FO : Hid (Ow v_2 B g l.length l.length (forg k l)) := ho
  clear ho hg
  refine hK.out _ _ (by (try dsimp only); all_goals trivial) (fun hHeld => ?_)
  clear hK K
  try simp only [Act.put, List.getElem_toArray, List.getElem_cons_succ, List.getElem_cons_zero, List.setIfInBounds_toArray, List.set_cons_zero, List.set_cons_succ]
  refine wpAnyH_done (by kernel_rfl) ?_ _
  go_wp2_with (refine wpList_clear_ow B g l.length l.length _ FO.out (l.length - 1) 1 rfl (by omega) ?_; intro w5 ho hg; have FO : Hid (Ow w5 B g l.length l.length (l.eraseIdx k ++ [zeroP])) := (by have q := ho; rw [forg_clear hk] at q; exact q); have FG : Hid (w.grownBy w5 (some g)) := grown_trans FG.out hg; clear ho hg)
  go_end0
  exact ⟨rfl, FO.out, FG.out⟩
/-- A list with a free place. -/
def freeL (l : List Pe) : List Pe := (if l.length = 60 then l.eraseIdx (fi l) else l)
theorem freeL_len (l : List Pe) (hl : l.length ≤ 60) (hf : l.length = 60 → fi l < 60) : (freeL l).length = if l.length = 60 then 59 else l.length := by
  unfold freeL
  split
  case isTrue h => rw [List.length_eraseIdx, if_pos (by rw [h]; exact hf h), h]
  case isFalse h => rfl
set_option maxRecDepth 20000 in
set_option maxHeartbeats 16000000 in
theorem withFreePlace_any (l : List Pe) (a : Option Addr) (cap : Nat) (hl : l.length ≤ 60) (hf : l.length = 60 → fi l < 60) (w : World) (hP : PIn w w.heap.size a l) :
    Calls Try.prog 23 #[.slice a l.length cap] w fun e w' => ∃ g, e = .returned (.slice (some ⟨g, 0, none⟩) ((freeL l).length + 1) ((freeL l).length + 1)) ∧ Ow w' w.heap.size g ((freeL l).length + 1) ((freeL l).length + 1) (freeL l ++ [zeroP]) ∧ Below w.heap.size w w' := by
  have HP : Hid (PIn w w.heap.size a l) := hP
  clear hP
  have hlen := freeL_len l hl hf
  by_cases c : l.length = 60
  · have bc : decide (l.length = 60) = true := decide_eq_true c
    rw [if_pos c] at hlen
    have hfl : freeL l = l.eraseIdx (fi l) := if_pos c
    have CF := fun B g W ho => forget_any B g l hl (fi l) rfl (by rw [c]; exact hf c) W ho
    rw [← hfl, c] at CF
    rw [hlen]
    have CC := fun W hW => copied_any l a cap 60 (by omega) hl W hW
    rw [c, Nat.sub_self, List.replicate_zero, List.append_nil] at CC
    have CU := fun W => isFull_any l a cap (by omega) W
    rw [bc, c] at CU
    rw [c]
    have FB : Hid (Below w.heap.size w w) := Below.refl _ _
    clear hf bc hlen hfl
    go_enter Try.func23, Try.ntmps23
    go_wp2_with (first | (go_at_call 20; refine (CU _).mono ?_; rintro e w' ⟨rfl, hw⟩; obtain rfl := hw.symm; clear hw) | (go_at_call 40; refine (CC _ HP.out).mono ?_; rintro e w1 ⟨g, rfl, ho, hb⟩; have FO : Hid (Ow w1 w.heap.size g 60 60 l) := ho; have FB : Hid (Below w.heap.size w w1) := hb; clear ho hb) | (go_at_call 41; refine (CF w.heap.size g _ FO.out).mono ?_; rintro e w2 ⟨rfl, ho, hg⟩; have FB : Hid (Below w.heap.size w w2) := FB.out.grown hg FB.out.size (fun j hj => by have e2 := Option.some.inj hj; have := FO.out.bl.1; omega); have FO2 : Hid (Ow w2 w.heap.size g 60 60 (freeL l ++ [zeroP])) := ho; clear ho hg))
    go_ret
    exact ⟨g, rfl, FO2.out, FB.out⟩
  · have bc : decide (l.length = 60) = false := decide_eq_false c
    rw [if_neg c] at hlen
    have hfl : freeL l = l := if_neg c
    rw [hfl]
    have CC := fun W hW => copied_any l a cap (l.length + 1) (by omega) (by omega) W hW
    have e1 : l.length + 1 - l.length = 1 := by omega
    rw [e1] at CC
    have CU := fun W => isFull_any l a cap (by omega) W
    rw [bc] at CU
    have ew : IntKind.i64.wrap ((l.length : Int) + 1) = (l.length : Int) + 1 := IntWalk.i64_in _ (by omega)
    clear hf bc hlen hfl e1
    go_enter Try.func23, Try.ntmps23
    go_wp2_with (first | (go_at_call 20; refine (CU _).mono ?_; rintro e w' ⟨rfl, hw⟩; obtain rfl := hw.symm; clear hw) | (go_at_call 40; refine (CC _ HP.out).mono ?_; rintro e w1 ⟨g, rfl, ho, hb⟩; have FO : Hid (Ow w1 w.heap.size g (l.length + 1) (l.length + 1) (l ++ [zeroP])) := ho; have FB : Hid (Below w.heap.size w w1) := hb; clear ho hb))
    go_ret
    exact ⟨g, rfl, FO.out, FB.out⟩
end Go.Proofs.Ytcjfaimhggckmaa
