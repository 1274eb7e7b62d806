/-
  The model's TraceFault, event by event.
-/
import Derived.Test.YtoacnglcneliiaaGreatDoorEvR
import Derived.Test.YtoacnglcneliiaaGreatDoorFnd
namespace Go.Proofs.YtoacnglcneliiaaGreatDoor
open Go.RowKit Pl
set_option linter.unusedSimpArgs false
set_option linter.unusedVariables false

theorem trG_zero {c : Nat → Int} : ∀ {i : Nat}, trG c i = 0 → ∀ j, j < i → c j = 0 := by
  intro i
  induction i with
  | zero => intro _ j hj; omega
  | succ i ih =>
    intro h j hj
    have e : (if trG c i = 0 then c i else trG c i) = 0 := h
    by_cases z : trG c i = 0
    · rw [if_pos z] at e
      rcases Nat.lt_succ_iff_lt_or_eq.1 hj with q | q
      · exact ih z j q
      · subst q; exact e
    · rw [if_neg z] at e; exact absurd e z
theorem code_at {h : Hs} {l : List Ev} {i : Nat} {p : Ev} (hp : l[i]? = some p) : Hs.codeI h l i = if Hs.evC h p = 0 then (if p.tk < lastT l i then 1 else nextC (callOf (l.take i) p.id) (stOf (l.take i) p.id) p) else Hs.evC h p := by
  unfold Hs.codeI
  rw [hp]
theorem kd_ok {h : Hs} {l : List Ev} {i : Nat} (t : trG (Hs.codeI h l) i = 0) : ∀ x ∈ l.take i, 1 ≤ x.kd ∧ x.kd ≤ 5 := by
  intro x hx
  obtain ⟨j, hj, e⟩ := List.mem_iff_getElem.1 hx
  have hji : j < i := by rw [List.length_take] at hj; omega
  have hjl : j < l.length := by rw [List.length_take] at hj; omega
  have ex : l[j]? = some x := by rw [List.getElem?_eq_getElem hjl, ← e, List.getElem_take]
  have c := trG_zero t j hji
  rw [code_at ex] at c
  by_cases z : Hs.evC h x = 0
  · have := evC_kd z; omega
  · rw [if_neg z] at c; exact absurd c z
theorem EIn.take {w : World} {B : Nat} {a : Option Addr} {l : List Ev} (h : EIn w B a l) (i : Nat) : EIn w B a (l.take i) := by
  rcases h with rfl | ⟨b, o, e, hl, h⟩
  · left; simp
  · refine Or.inr ⟨b, o, e, hl, fun j p hp => h j p ?_⟩
    rw [List.getElem?_take] at hp
    split at hp
    · exact hp
    · cases hp
theorem cut_toE (g o k n cap : Nat) (hk : k ≤ cap) : ∀ w, (Instr.slice 26 (.slice (some ⟨g, o, none⟩) n cap) none (some (.int .i64 (k : Int))) none).run Tryz.prog w = .ok (.slice (some ⟨g, o, none⟩) k cap) w := by
  intro w
  obtain ⟨i, hi, h0, hs, hb⟩ := info_parts infoEV
  have he : Tryz.prog.elem 26 = 34 := by kernel_rfl
  have hu : Tryz.prog.underlying 26 = some (.slice (Tryz.prog.elem 26)) := by rw [he]; exact undEVS
  have hsz : (sizeOf (Tryz.prog.elem 26)).run Tryz.prog w = .ok 5 w := by
    rw [he]
    simp [sizeOf, typeInfo, hi, hs]
  rw [run_slice_h _ _ _ _ _ hu .i64 (k : Int) (by omega) (by omega), hsz, Int.toNat_natCast]
  simp [Result.andThen, sliced, Addr.add]
set_option maxRecDepth 20000 in
set_option maxHeartbeats 32000000 in
theorem specTrace_any (h : Hs) (l : List Ev) (a : Option Addr) (cap : Nat) (hl : l.length ≤ 1048576) (hcap : l.length ≤ cap) (w : World) (hE : EIn w w.heap.size a l) :
    Calls Tryz.prog 15 #[.agg #[.int .i64 h.fl, .int .i64 h.gp, .int .i64 h.ln, .int .i64 h.rf, .int .i64 h.sp, .int .i64 h.pu, .int .i64 h.br, .int .i64 h.dr, .int .i64 h.lv, .int .i64 h.dO, .int .i64 h.ld, .int .i64 h.qu], .slice a l.length cap] w fun r w' => r = .returned (.int .i64 (Hs.tr h l)) ∧ Below w.heap.size w w' := by
  have HE : Hid (EIn w w.heap.size a l) := hE
  obtain ⟨K, hK⟩ : ∃ K, Hs.tr h l = K := ⟨_, rfl⟩
  rw [hK]
  unfold Hs.tr at hK
  clear hE
  have F0 : Hid (HAt (w.alloc (.cells #[.int .i64 h.fl, .int .i64 h.gp, .int .i64 h.ln, .int .i64 h.rf, .int .i64 h.sp, .int .i64 h.pu, .int .i64 h.br, .int .i64 h.dr, .int .i64 h.lv, .int .i64 h.dO, .int .i64 h.ld, .int .i64 h.qu] 25)) w.heap.size h) := HAt.at_ w h _ _ (by simp)
  have FB : Hid (Below w.heap.size w (w.alloc (.cells #[.int .i64 h.fl, .int .i64 h.gp, .int .i64 h.ln, .int .i64 h.rf, .int .i64 h.sp, .int .i64 h.pu, .int .i64 h.br, .int .i64 h.dr, .int .i64 h.lv, .int .i64 h.dO, .int .i64 h.ld, .int .i64 h.qu] 25))) := ((Below.refl _ _).alloc (Nat.le_refl _) _)
  by_cases hf : h.fault = 0
  case neg =>
    have HV : Hid (h.fault = K) := by rw [if_neg hf] at hK; exact hK
    have hn : (h.fault != 0) = true := by simpa using hf
    clear hf hK
    go_enter Tryz.func15, Tryz.ntmps15
    go_wp2_with (go_at_call 29; refine (specFault_any h _).mono ?_; rintro e w1 ⟨rfl, hb⟩; have F0 : Hid (HAt w1 w.heap.size h) := F0.out.below hb F0.out.lt; have FB : Hid (Below w.heap.size w w1) := FB.out.trans (hb.mono FB.out.size); obtain ⟨x0_0, x0_1, x0_2, x0_3, x0_4, x0_5, x0_6, x0_7, x0_8, x0_9, x0_10, x0_11⟩ := F0.out; clear hb)
    go_ret
    exact ⟨ret_int HV.out, FB.out⟩
  rw [if_pos hf] at hK
  unfold Hs.trC at hK
  by_cases hm : 200 < l.length
  · have HV : Hid ((2 : Int) = K) := by rw [if_pos hm] at hK; exact hK
    have d1 : decide ((200 : Int) < (l.length : Int)) = true := decide_eq_true (by omega)
    clear hK
    go_enter Tryz.func15, Tryz.ntmps15
    go_wp2_with (go_at_call 29; refine (specFault_any h _).mono ?_; rw [hf]; rintro e w1 ⟨rfl, hb⟩; have F0 : Hid (HAt w1 w.heap.size h) := F0.out.below hb F0.out.lt; have FB : Hid (Below w.heap.size w w1) := FB.out.trans (hb.mono FB.out.size); obtain ⟨x0_0, x0_1, x0_2, x0_3, x0_4, x0_5, x0_6, x0_7, x0_8, x0_9, x0_10, x0_11⟩ := F0.out; clear hb)
    go_ret
    exact ⟨ret_int HV.out, FB.out⟩
  have HV : Hid (trG (Hs.codeI h l) l.length = K) := by rw [if_neg hm] at hK; exact hK
  have d1 : decide ((200 : Int) < (l.length : Int)) = false := decide_eq_false (by omega)
  clear hK
  go_enter Tryz.func15, Tryz.ntmps15
  go_wp2_with (go_at_call 29; refine (specFault_any h _).mono ?_; rw [hf]; rintro e w1 ⟨rfl, hb⟩; have F0 : Hid (HAt w1 w.heap.size h) := F0.out.below hb F0.out.lt; have FB : Hid (Below w.heap.size w w1) := FB.out.trans (hb.mono FB.out.size); obtain ⟨x0_0, x0_1, x0_2, x0_3, x0_4, x0_5, x0_6, x0_7, x0_8, x0_9, x0_10, x0_11⟩ := F0.out; clear hb)
  clear d1 x0_0 x0_1 x0_2 x0_3 x0_4 x0_5 x0_6 x0_7 x0_8 x0_9 x0_10 x0_11
  go_loopw [6] (fun ii wr => ∃ i : Nat, ii = .int .i64 i ∧ i ≤ l.length ∧ trG (Hs.codeI h l) i = 0 ∧ HAt wr w.heap.size h ∧ Below w.heap.size w wr) (fun ii _ => l.length - (intOf ii).toNat)
  case atStart => exact ⟨0, rfl, by omega, rfl, F0.out, FB.out⟩
  case round =>
    obtain ⟨i, rfl, hi, ht0, hF0, hFB⟩ := hrel
    have HT : Hid (trG (Hs.codeI h l) i = 0) := ht0
    have F0 : Hid (HAt wr w.heap.size h) := hF0
    have FB : Hid (Below w.heap.size w wr) := hFB
    clear ht0 hF0 hFB
    by_cases hlt : i < l.length
    · obtain ⟨p, hp⟩ : ∃ p, l[i]? = some p := ⟨_, List.getElem?_eq_getElem hlt⟩
      have HG : Hid (l[i]? = some p) := hp
      rcases HE.out with h0 | ⟨b, o, rfl, hbl, h5⟩
      · rw [h0] at hlt; simp at hlt
      have FP : Hid (E5 wr b (o + i * 5) p) := (h5 i p hp).below FB.out hbl
      obtain ⟨N, hN⟩ : ∃ N, nextC (callOf (l.take i) p.id) (stOf (l.take i) p.id) p = N := ⟨_, rfl⟩
      have HC : Hid (Hs.codeI h l i = if Hs.evC h p = 0 then (if p.tk < lastT l i then 1 else N) else Hs.evC h p) := by show _ = _; rw [code_at hp, hN]
      have HKD : Hid (∀ x ∈ l.take i, 1 ≤ x.kd ∧ x.kd ≤ 5) := kd_ok HT.out
      have hev : Hs.ev h p = Hs.evC h p := by unfold Hs.ev; rw [if_pos hf]
      have H5 : Hid (∀ j q, l[j]? = some q → E5 w b (o + j * 5) q) := h5
      clear hp h5
      go_upto_region 9 with fail
      have F0 : Hid (HAt wr.drew w.heap.size h) := F0.out.below (Below.refl _ _).drew F0.out.lt
      have FP : Hid (E5 wr.drew b (o + i * 5) p) := FP.out.below (Below.refl _ _).drew FP.out.lt
      have FB : Hid (Below w.heap.size w wr.drew) := FB.out.drew
      obtain ⟨x0_0, x0_1, x0_2, x0_3, x0_4, x0_5, x0_6, x0_7, x0_8, x0_9, x0_10, x0_11⟩ := F0.out
      have m0 := FP.out.c0
      have m1 := FP.out.c1
      have m2 := FP.out.c2
      have m3 := FP.out.c3
      have m4 := FP.out.c4
      refine wp_region_held_drew (S := (fun w'' => w''.cell? ⟨w.heap.size, 0, none⟩ = some (.int .i64 h.fl) ∧ w''.cell? ⟨w.heap.size, 1, none⟩ = some (.int .i64 h.gp) ∧ w''.cell? ⟨w.heap.size, 2, none⟩ = some (.int .i64 h.ln) ∧ w''.cell? ⟨w.heap.size, 3, none⟩ = some (.int .i64 h.rf) ∧ w''.cell? ⟨w.heap.size, 4, none⟩ = some (.int .i64 h.sp) ∧ w''.cell? ⟨w.heap.size, 5, none⟩ = some (.int .i64 h.pu) ∧ w''.cell? ⟨w.heap.size, 6, none⟩ = some (.int .i64 h.br) ∧ w''.cell? ⟨w.heap.size, 7, none⟩ = some (.int .i64 h.dr) ∧ w''.cell? ⟨w.heap.size, 8, none⟩ = some (.int .i64 h.lv) ∧ w''.cell? ⟨w.heap.size, 9, none⟩ = some (.int .i64 h.dO) ∧ w''.cell? ⟨w.heap.size, 10, none⟩ = some (.int .i64 h.ld) ∧ w''.cell? ⟨w.heap.size, 11, none⟩ = some (.int .i64 h.qu) ∧ w''.cell? ⟨b, o + i * 5, none⟩ = some (.int .i64 p.tk) ∧ w''.cell? ⟨b, o + i * 5 + 1, none⟩ = some (.int .i64 p.kd) ∧ w''.cell? ⟨b, o + i * 5 + 2, none⟩ = some (.int .i64 p.id) ∧ w''.cell? ⟨b, o + i * 5 + 3, none⟩ = some (.int .i64 p.fl) ∧ w''.cell? ⟨b, o + i * 5 + 4, none⟩ = some (.int .i64 p.tw))) (by kernel_rfl) (by (try dsimp only); first | exact ⟨x0_0, x0_1, x0_2, x0_3, x0_4, x0_5, x0_6, x0_7, x0_8, x0_9, x0_10, x0_11, m0, m1, m2, m3, m4⟩ | go_keep) (fun hHeld => ?_)
      obtain ⟨v_1, hw1⟩ : ∃ v_1, v_1 = wr.drew := ⟨_, rfl⟩
      have F0 : Hid (HAt v_1 w.heap.size h) := by rw [hw1]; exact F0.out
      have FP : Hid (E5 v_1 b (o + i * 5) p) := by rw [hw1]; exact FP.out
      have FB : Hid (Below w.heap.size w v_1) := by rw [hw1]; exact FB.out
      rw [← hw1] at hHeld ⊢
      clear hw1
      obtain ⟨x0_0, x0_1, x0_2, x0_3, x0_4, x0_5, x0_6, x0_7, x0_8, x0_9, x0_10, x0_11⟩ := F0.out
      have m0 := FP.out.c0
      have m1 := FP.out.c1
      have m2 := FP.out.c2
      have m3 := FP.out.c3
      have m4 := FP.out.c4
      refine tkz 0 rfl ?_
      refine tkz 1 rfl ?_
      refine tkz 2 rfl ?_
      refine tkz 3 rfl ?_
      refine tkz 4 rfl ?_
      refine wpAnyH_ready (rs := [5]) (by kernel_rfl) (by simp) ?_
      refine (AllReadyH.cons rfl (fun K hK => ?_) AllReadyH.nil)
      go_simp
      refine ((specEvent_any h p _).mono (fun _ _ z => hev ▸ z)).mono ?_
      rintro e v_2 ⟨rfl, hb⟩
      have F0 : Hid (HAt v_2 w.heap.size h) := F0.out.below hb F0.out.lt
      have FP : Hid (E5 v_2 b (o + i * 5) p) := FP.out.below hb FP.out.lt
      have FB : Hid (Below w.heap.size w v_2) := FB.out.trans (hb.mono FB.out.size)
      clear hb
      obtain ⟨x0_0, x0_1, x0_2, x0_3, x0_4, x0_5, x0_6, x0_7, x0_8, x0_9, x0_10, x0_11⟩ := F0.out
      have m0 := FP.out.c0
      have m1 := FP.out.c1
      have m2 := FP.out.c2
      have m3 := FP.out.c3
      have m4 := FP.out.c4
      try dsimp only
      refine hK.out _ _ (by (try dsimp only); first | exact ⟨x0_0, x0_1, x0_2, x0_3, x0_4, x0_5, x0_6, x0_7, x0_8, x0_9, x0_10, x0_11, m0, m1, m2, m3, m4⟩ | go_keep) (fun hHeld => ?_)
      clear hK K
      try simp only [Act.put, List.getElem_toArray, List.getElem_cons_succ, List.getElem_cons_zero, List.setIfInBounds_toArray, List.set_cons_zero, List.set_cons_succ]
      refine tkz 6 rfl ?_
      refine wpAnyH_done (by kernel_rfl) ?_ _
      obtain ⟨w3, hw3⟩ : ∃ w3, w3 = v_2 := ⟨_, rfl⟩
      subst hw3
      clear hev
      by_cases c0 : Hs.evC h p = 0
      case neg =>
        have HZ : Hid (Hs.evC h p = K) := by
          have q := HC.out
          rw [if_neg c0] at q
          show _ = K
          rw [← HV.out, trG_stop HT.out (by rw [q]; exact c0) hlt, q]
        have hn : (Hs.evC h p != 0) = true := by simpa using c0
        clear HC HV HT c0
        go_wp2_with fail
        go_ret
        exact ⟨ret_int HZ.out, FB.out⟩
      have HC : Hid (Hs.codeI h l i = if p.tk < lastT l i then 1 else N) := by have q := HC.out; rw [if_pos c0] at q; exact q
      rw [c0]
      have hpt := (evC_kd c0).2.2.1
      cases i with
      | zero =>
        have HC : Hid (Hs.codeI h l 0 = N) := by have q := HC.out; rw [if_neg (by show ¬ p.tk < 0; omega)] at q; exact q
        have FP : Hid (E5 w3 b o p) := by have q := FP.out; rw [Nat.zero_mul, Nat.add_zero] at q; exact q
        go_upto_region 12 with fail
        have F0 : Hid (HAt w3.drew w.heap.size h) := F0.out.below (Below.refl _ _).drew F0.out.lt
        have FP : Hid (E5 w3.drew b (o) p) := FP.out.below (Below.refl _ _).drew FP.out.lt
        have FB : Hid (Below w.heap.size w w3.drew) := FB.out.drew
        have m0 := FP.out.c0
        refine wp_region_held_drew (S := (fun w'' => w''.cell? ⟨b, o, none⟩ = some (.int .i64 p.tk))) (by kernel_rfl) (by (try dsimp only); first | exact m0 | go_keep) (fun hHeld => ?_)
        obtain ⟨v_3, hw1⟩ : ∃ v_3, v_3 = w3.drew := ⟨_, rfl⟩
        have F0 : Hid (HAt v_3 w.heap.size h) := by rw [hw1]; exact F0.out
        have FP : Hid (E5 v_3 b (o) p) := by rw [hw1]; exact FP.out
        have FB : Hid (Below w.heap.size w v_3) := by rw [hw1]; exact FB.out
        rw [← hw1] at hHeld ⊢
        clear hw1
        have m0 := FP.out.c0
        refine tkz 0 rfl ?_
        refine tkz 1 rfl ?_
        refine tkz 2 rfl ?_
        refine tbz 3 rfl ?_
        refine tbz 4 rfl ?_
        refine tbz 5 rfl ?_
        refine tbz 6 rfl ?_
        refine tbz 7 rfl ?_
        refine tbz 8 rfl ?_
        refine tbz 9 rfl ?_
        refine tbz 10 rfl ?_
        refine tbz 11 rfl ?_
        refine tbz 12 rfl ?_
        refine tbz 13 rfl ?_
        refine tbz 14 rfl ?_
        refine tkz 15 rfl ?_
        refine wpAnyH_done (by kernel_rfl) ?_ _
        obtain ⟨w4, hw4⟩ : ∃ w4, w4 = v_3 := ⟨_, rfl⟩
        subst hw4
        have ht : (l.take (0)).length = 0 := by rw [List.length_take]; omega
        have HNX : Hid (∀ W, EIn W W.heap.size (some ⟨b, o, none⟩) l → Calls Tryz.prog 31 #[.slice (some ⟨b, o, none⟩) (0) cap, .agg #[.int .i64 p.tk, .int .i64 p.kd, .int .i64 p.id, .int .i64 p.fl, .int .i64 p.tw]] W fun r w' => r = .returned (.int .i64 N) ∧ Below W.heap.size W w') := fun W hW => by have q := l10Next_any (some ⟨b, o, none⟩) cap (l.take (0)) p (by rw [ht]; omega) HKD.out W (hW.take _); rw [ht, hN] at q; exact q
        have hct := cut_toE b o (0) l.length cap (by omega)
        clear ht
        skip
        go_upto_region 14 with fail
        have F0 : Hid (HAt w4.drew w.heap.size h) := F0.out.below (Below.refl _ _).drew F0.out.lt
        have FP : Hid (E5 w4.drew b (o) p) := FP.out.below (Below.refl _ _).drew FP.out.lt
        have FB : Hid (Below w.heap.size w w4.drew) := FB.out.drew
        have m0 := FP.out.c0
        have m1 := FP.out.c1
        have m2 := FP.out.c2
        have m3 := FP.out.c3
        have m4 := FP.out.c4
        refine wp_region_held_drew (S := (fun w'' => w''.cell? ⟨b, o, none⟩ = some (.int .i64 p.tk) ∧ w''.cell? ⟨b, o + 1, none⟩ = some (.int .i64 p.kd) ∧ w''.cell? ⟨b, o + 2, none⟩ = some (.int .i64 p.id) ∧ w''.cell? ⟨b, o + 3, none⟩ = some (.int .i64 p.fl) ∧ w''.cell? ⟨b, o + 4, none⟩ = some (.int .i64 p.tw))) (by kernel_rfl) (by (try dsimp only); first | exact ⟨m0, m1, m2, m3, m4⟩ | go_keep) (fun hHeld => ?_)
        obtain ⟨v_4, hw1⟩ : ∃ v_4, v_4 = w4.drew := ⟨_, rfl⟩
        have F0 : Hid (HAt v_4 w.heap.size h) := by rw [hw1]; exact F0.out
        have FP : Hid (E5 v_4 b (o) p) := by rw [hw1]; exact FP.out
        have FB : Hid (Below w.heap.size w v_4) := by rw [hw1]; exact FB.out
        rw [← hw1] at hHeld ⊢
        clear hw1
        have m0 := FP.out.c0
        have m1 := FP.out.c1
        have m2 := FP.out.c2
        have m3 := FP.out.c3
        have m4 := FP.out.c4
        refine tkz 0 rfl ?_
        refine tkz 1 rfl ?_
        refine tkz 2 rfl ?_
        refine tkz 3 rfl ?_
        refine tkz 4 rfl ?_
        refine tkz 5 rfl ?_
        refine tkz 6 rfl ?_
        refine wpAnyH_ready (rs := [7]) (by kernel_rfl) (by simp) ?_
        refine (AllReadyH.cons rfl (fun K hK => ?_) AllReadyH.nil)
        go_simp
        refine ((HNX.out _ ((HE.out.below FB.out (Nat.le_refl _)).mono FB.out.size))).mono ?_
        rintro e v_5 ⟨rfl, hb⟩
        have F0 : Hid (HAt v_5 w.heap.size h) := F0.out.below hb F0.out.lt
        have FP : Hid (E5 v_5 b (o) p) := FP.out.below hb FP.out.lt
        have FB : Hid (Below w.heap.size w v_5) := FB.out.trans (hb.mono FB.out.size)
        clear hb
        have m0 := FP.out.c0
        have m1 := FP.out.c1
        have m2 := FP.out.c2
        have m3 := FP.out.c3
        have m4 := FP.out.c4
        try dsimp only
        refine hK.out _ _ (by (try dsimp only); first | exact ⟨m0, m1, m2, m3, m4⟩ | go_keep) (fun hHeld => ?_)
        clear hK K
        try simp only [Act.put, List.getElem_toArray, List.getElem_cons_succ, List.getElem_cons_zero, List.setIfInBounds_toArray, List.set_cons_zero, List.set_cons_succ]
        refine tkz 8 rfl ?_
        refine wpAnyH_done (by kernel_rfl) ?_ _
        obtain ⟨w5, hw5⟩ : ∃ w5, w5 = v_5 := ⟨_, rfl⟩
        subst hw5
        by_cases n0 : N = 0
        · have b0 : (N != 0) = false := by simpa using n0
          have HT2 : Hid (trG (Hs.codeI h l) 1 = 0) := trG_next HT.out (by rw [HC.out, n0])
          go_wp2_with fail
          go_roundw
          case rel => exact ⟨1, by simp, by omega, HT2.out, F0.out, FB.out⟩
          case measure => simp [intOf]; omega
        · have b0 : (N != 0) = true := by simpa using n0
          have HZ : Hid (N = K) := by show _ = K; rw [← HV.out, trG_stop HT.out (by rw [HC.out]; exact n0) hlt, HC.out]
          go_wp2_with fail
          go_ret
          exact ⟨ret_int HZ.out, FB.out⟩
      | succ j =>
        obtain ⟨q, hq⟩ : ∃ q, l[j]? = some q := ⟨_, List.getElem?_eq_getElem (by omega)⟩
        have FQ : Hid (E5 w3 b (o + j * 5) q) := (H5.out j q hq).below FB.out hbl
        have hlast : lastT l (j + 1) = q.tk := by show (match l[j]? with | some q => q.tk | none => 0) = _; rw [hq]
        rw [hlast] at HC
        have ej : IntKind.i64.wrap (((j + 1 : Nat) : Int) - 1) = (j : Int) := (IntWalk.i64_in _ (by omega)).trans (by omega)
        have dj : decide ((0 : Int) < ((j + 1 : Nat) : Int)) = true := decide_eq_true (by omega)
        have ej2 : IntKind.i64.wrap ((j : Int) + 1 - 1) = (j : Int) := (IntWalk.i64_in _ (by omega)).trans (by omega)
        have ej3 : IntKind.i64.wrap (j : Int) = (j : Int) := IntWalk.i64_in _ (by omega)
        have dj2 : decide ((0 : Int) < (j : Int) + 1) = true := decide_eq_true (by omega)
        have hb1 : (0 : Int) ≤ (j : Int) + 1 := by omega
        have hb2 : (j : Int) + 1 < (l.length : Int) := by omega
        have hb3 : (j : Int) < (l.length : Int) := by omega
        have hb5 : (j : Int) + 1 ≤ (cap : Int) := by omega
        have hj : j < l.length := by omega
        clear hq hlast
        go_upto_region 12 with fail
        have F0 : Hid (HAt w3.drew w.heap.size h) := F0.out.below (Below.refl _ _).drew F0.out.lt
        have FP : Hid (E5 w3.drew b (o + (j + 1) * 5) p) := FP.out.below (Below.refl _ _).drew FP.out.lt
        have FQ : Hid (E5 w3.drew b (o + j * 5) q) := FQ.out.below (Below.refl _ _).drew FQ.out.lt
        have FB : Hid (Below w.heap.size w w3.drew) := FB.out.drew
        have m0 := FP.out.c0
        have m1 := FQ.out.c0
        refine wp_region_held_drew (S := (fun w'' => w''.cell? ⟨b, o + (j + 1) * 5, none⟩ = some (.int .i64 p.tk) ∧ w''.cell? ⟨b, o + j * 5, none⟩ = some (.int .i64 q.tk))) (by kernel_rfl) (by (try dsimp only); first | exact ⟨m0, m1⟩ | go_keep) (fun hHeld => ?_)
        obtain ⟨v_6, hw1⟩ : ∃ v_6, v_6 = w3.drew := ⟨_, rfl⟩
        have F0 : Hid (HAt v_6 w.heap.size h) := by rw [hw1]; exact F0.out
        have FP : Hid (E5 v_6 b (o + (j + 1) * 5) p) := by rw [hw1]; exact FP.out
        have FQ : Hid (E5 v_6 b (o + j * 5) q) := by rw [hw1]; exact FQ.out
        have FB : Hid (Below w.heap.size w v_6) := by rw [hw1]; exact FB.out
        rw [← hw1] at hHeld ⊢
        clear hw1
        have m0 := FP.out.c0
        have m1 := FQ.out.c0
        refine tkz 0 rfl ?_
        refine tkz 1 rfl ?_
        refine tkz 2 rfl ?_
        refine tkz 3 rfl ?_
        refine tkz 4 rfl ?_
        refine tkz 5 rfl ?_
        refine tkz 6 rfl ?_
        refine tkz 7 rfl ?_
        refine tkz 8 rfl ?_
        refine tkz 9 rfl ?_
        refine tkz 10 rfl ?_
        refine tkz 11 rfl ?_
        refine tkz 12 rfl ?_
        refine tkz 13 rfl ?_
        refine tkz 14 rfl ?_
        refine tkz 15 rfl ?_
        refine wpAnyH_done (by kernel_rfl) ?_ _
        obtain ⟨w4, hw4⟩ : ∃ w4, w4 = v_6 := ⟨_, rfl⟩
        subst hw4
        by_cases c1 : p.tk < q.tk
        · have dc : decide (p.tk < q.tk) = true := decide_eq_true c1
          have HC : Hid (Hs.codeI h l (j + 1) = 1) := by have z := HC.out; rw [if_pos c1] at z; exact z
          have HZ : Hid ((1 : Int) = K) := by show _ = K; rw [← HV.out, trG_stop HT.out (by rw [HC.out]; decide) hlt, HC.out]
          go_wp2_with fail
          go_ret
          exact ⟨ret_int HZ.out, FB.out⟩
        have dc : decide (p.tk < q.tk) = false := decide_eq_false c1
        have HC : Hid (Hs.codeI h l (j + 1) = N) := by have z := HC.out; rw [if_neg c1] at z; exact z
        have ht : (l.take (j + 1)).length = j + 1 := by rw [List.length_take]; omega
        have HNX : Hid (∀ W, EIn W W.heap.size (some ⟨b, o, none⟩) l → Calls Tryz.prog 31 #[.slice (some ⟨b, o, none⟩) (j + 1) cap, .agg #[.int .i64 p.tk, .int .i64 p.kd, .int .i64 p.id, .int .i64 p.fl, .int .i64 p.tw]] W fun r w' => r = .returned (.int .i64 N) ∧ Below W.heap.size W w') := fun W hW => by have q := l10Next_any (some ⟨b, o, none⟩) cap (l.take (j + 1)) p (by rw [ht]; omega) HKD.out W (hW.take _); rw [ht, hN] at q; exact q
        have hct := cut_toE b o (j + 1) l.length cap (by omega)
        clear ht
        skip
        go_upto_region 14 with fail
        have F0 : Hid (HAt w4.drew w.heap.size h) := F0.out.below (Below.refl _ _).drew F0.out.lt
        have FP : Hid (E5 w4.drew b (o + (j + 1) * 5) p) := FP.out.below (Below.refl _ _).drew FP.out.lt
        have FB : Hid (Below w.heap.size w w4.drew) := FB.out.drew
        have m0 := FP.out.c0
        have m1 := FP.out.c1
        have m2 := FP.out.c2
        have m3 := FP.out.c3
        have m4 := FP.out.c4
        refine wp_region_held_drew (S := (fun w'' => w''.cell? ⟨b, o + (j + 1) * 5, none⟩ = some (.int .i64 p.tk) ∧ w''.cell? ⟨b, o + (j + 1) * 5 + 1, none⟩ = some (.int .i64 p.kd) ∧ w''.cell? ⟨b, o + (j + 1) * 5 + 2, none⟩ = some (.int .i64 p.id) ∧ w''.cell? ⟨b, o + (j + 1) * 5 + 3, none⟩ = some (.int .i64 p.fl) ∧ w''.cell? ⟨b, o + (j + 1) * 5 + 4, none⟩ = some (.int .i64 p.tw))) (by kernel_rfl) (by (try dsimp only); first | exact ⟨m0, m1, m2, m3, m4⟩ | go_keep) (fun hHeld => ?_)
        obtain ⟨v_7, hw1⟩ : ∃ v_7, v_7 = w4.drew := ⟨_, rfl⟩
        have F0 : Hid (HAt v_7 w.heap.size h) := by rw [hw1]; exact F0.out
        have FP : Hid (E5 v_7 b (o + (j + 1) * 5) p) := by rw [hw1]; exact FP.out
        have FB : Hid (Below w.heap.size w v_7) := by rw [hw1]; exact FB.out
        rw [← hw1] at hHeld ⊢
        clear hw1
        have m0 := FP.out.c0
        have m1 := FP.out.c1
        have m2 := FP.out.c2
        have m3 := FP.out.c3
        have m4 := FP.out.c4
        refine tkz 0 rfl ?_
        refine tkz 1 rfl ?_
        refine tkz 2 rfl ?_
        refine tkz 3 rfl ?_
        refine tkz 4 rfl ?_
        refine tkz 5 rfl ?_
        refine tkz 6 rfl ?_
        refine wpAnyH_ready (rs := [7]) (by kernel_rfl) (by simp) ?_
        refine (AllReadyH.cons rfl (fun K hK => ?_) AllReadyH.nil)
        go_simp
        refine ((HNX.out _ ((HE.out.below FB.out (Nat.le_refl _)).mono FB.out.size))).mono ?_
        rintro e v_8 ⟨rfl, hb⟩
        have F0 : Hid (HAt v_8 w.heap.size h) := F0.out.below hb F0.out.lt
        have FP : Hid (E5 v_8 b (o + (j + 1) * 5) p) := FP.out.below hb FP.out.lt
        have FB : Hid (Below w.heap.size w v_8) := FB.out.trans (hb.mono FB.out.size)
        clear hb
        have m0 := FP.out.c0
        have m1 := FP.out.c1
        have m2 := FP.out.c2
        have m3 := FP.out.c3
        have m4 := FP.out.c4
        try dsimp only
        refine hK.out _ _ (by (try dsimp only); first | exact ⟨m0, m1, m2, m3, m4⟩ | go_keep) (fun hHeld => ?_)
        clear hK K
        try simp only [Act.put, List.getElem_toArray, List.getElem_cons_succ, List.getElem_cons_zero, List.setIfInBounds_toArray, List.set_cons_zero, List.set_cons_succ]
        refine tkz 8 rfl ?_
        refine wpAnyH_done (by kernel_rfl) ?_ _
        obtain ⟨w5, hw5⟩ : ∃ w5, w5 = v_8 := ⟨_, rfl⟩
        subst hw5
        by_cases n0 : N = 0
        · have b0 : (N != 0) = false := by simpa using n0
          have HT2 : Hid (trG (Hs.codeI h l) (j + 1 + 1) = 0) := trG_next HT.out (by rw [HC.out, n0])
          go_wp2_with fail
          go_roundw
          case rel => exact ⟨j + 1 + 1, by simp, by omega, HT2.out, F0.out, FB.out⟩
          case measure => simp [intOf]; omega
        · have b0 : (N != 0) = true := by simpa using n0
          have HZ : Hid (N = K) := by show _ = K; rw [← HV.out, trG_stop HT.out (by rw [HC.out]; exact n0) hlt, HC.out]
          go_wp2_with fail
          go_ret
          exact ⟨ret_int HZ.out, FB.out⟩
    · have ei : i = l.length := by omega
      subst ei
      have HZ : Hid ((0 : Int) = K) := HT.out.symm.trans HV.out
      go_wp2_with fail
      go_ret
      exact ⟨ret_int HZ.out, FB.out⟩
end Go.Proofs.YtoacnglcneliiaaGreatDoor
