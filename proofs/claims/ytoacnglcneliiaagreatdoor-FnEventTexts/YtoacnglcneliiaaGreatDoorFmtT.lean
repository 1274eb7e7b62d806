/-
  The text of events: the model.
-/
import Derived.Test.YtoacnglcneliiaaGreatDoorFmtS
import Derived.Test.YtoacnglcneliiaaGreatDoorEvS
import Derived.Laws.Concat
import Derived.BigGuardPart
namespace Go.Proofs.YtoacnglcneliiaaGreatDoor
open Go.RowKit Pl
set_option linter.unusedSimpArgs false
set_option linter.unusedVariables false

theorem evC_all {h : Hs} {e : Ev} (hf : h.fault = 0) (k : Hs.evC h e = 0) : EvI e ∧ 1 ≤ e.kd ∧ e.kd ≤ 5 := by
  have oo := Hs.ok_of (Hs.fault_zero hf).1
  have f1 := oo.fl1
  have f2 := oo.fl2
  have q := evC_kd k
  unfold Hs.evC at k
  split at k
  case isFalse => omega
  case isTrue a =>
    simp only [Bool.and_eq_true] at a
    have t1 := inB_iff.1 a.1
    have t2 := inB_iff.1 a.2
    split at k
    case isFalse => omega
    case isTrue b =>
      split at k
      case isFalse => omega
      case isTrue c =>
        have t3 := inB_iff.1 c
        have t4 : i64N e.tw := by
          split at k
          case isTrue d =>
            unfold Hs.callC at k
            split at k
            case isTrue u =>
              have t5 := inB_iff.1 u.2
              exact ⟨by omega, by omega⟩
            case isFalse => omega
          case isFalse d =>
            split at k
            case isTrue => omega
            case isFalse u =>
              simp at u
              exact ⟨by omega, by omega⟩
        exact ⟨⟨⟨by omega, by omega⟩, ⟨by omega, by omega⟩, ⟨by omega, by omega⟩, t4⟩, q.1, q.2.1⟩
theorem tr_all {h : Hs} {l : List Ev} (hz : Hs.tr h l = 0) : l.length ≤ 200 ∧ ∀ e ∈ l, EvI e ∧ 1 ≤ e.kd ∧ e.kd ≤ 5 := by
  unfold Hs.tr at hz
  split at hz
  case isFalse hf => exact absurd hz hf
  case isTrue hf =>
    unfold Hs.trC at hz
    split at hz
    case isTrue => omega
    case isFalse hn =>
      refine ⟨by omega, fun x hx => ?_⟩
      obtain ⟨j, hj, ex⟩ := List.getElem_of_mem hx
      have ex2 : l[j]? = some x := by rw [List.getElem?_eq_getElem hj, ex]
      have c := trG_zero hz j hj
      rw [code_at ex2] at c
      by_cases z : Hs.evC h x = 0
      · exact evC_all hf z
      · rw [if_neg z] at c; exact absurd c z
/-- The text of events: nothing where they have a fault. -/
def Hs.fmE (h : Hs) (l : List Ev) : ByteArray := if Hs.tr h l = 0 then evTx l else ⟨#[]⟩
set_option maxRecDepth 20000 in
set_option maxHeartbeats 16000000 in
theorem specFormat_any (h : Hs) (l : List Ev) (a : Option Addr) (cap : Nat) (hl : l.length ≤ 1048576) (hcap : l.length ≤ cap) (w : World) (hE : EIn w w.heap.size a l) :
    Calls Tryz.prog 7 #[.agg #[.int .i64 h.fl, .int .i64 h.gp, .int .i64 h.ln, .int .i64 h.rf, .int .i64 h.sp, .int .i64 h.pu, .int .i64 h.br, .int .i64 h.dr, .int .i64 h.lv, .int .i64 h.dO, .int .i64 h.ld, .int .i64 h.qu], .slice a l.length cap] w fun r w' => r = .returned (.string (Hs.fmE h l)) ∧ Below w.heap.size w w' := by
  have HE : Hid (EIn w w.heap.size a l) := hE
  clear hE
  obtain ⟨W0, hW0⟩ : ∃ W0, W0 = w.alloc (.cells #[.int .i64 h.fl, .int .i64 h.gp, .int .i64 h.ln, .int .i64 h.rf, .int .i64 h.sp, .int .i64 h.pu, .int .i64 h.br, .int .i64 h.dr, .int .i64 h.lv, .int .i64 h.dO, .int .i64 h.ld, .int .i64 h.qu] 25) := ⟨_, rfl⟩
  have F0 : Hid (Blk W0 w.heap.size [.int .i64 h.fl, .int .i64 h.gp, .int .i64 h.ln, .int .i64 h.rf, .int .i64 h.sp, .int .i64 h.pu, .int .i64 h.br, .int .i64 h.dr, .int .i64 h.lv, .int .i64 h.dO, .int .i64 h.ld, .int .i64 h.qu]) := by rw [hW0]; exact Blk.at_ w #[.int .i64 h.fl, .int .i64 h.gp, .int .i64 h.ln, .int .i64 h.rf, .int .i64 h.sp, .int .i64 h.pu, .int .i64 h.br, .int .i64 h.dr, .int .i64 h.lv, .int .i64 h.dO, .int .i64 h.ld, .int .i64 h.qu] _ _ rfl
  have FB : Hid (Below w.heap.size w W0) := by rw [hW0]; exact (Below.refl _ _).alloc (Nat.le_refl _) _
  have HW0 : Hid (W0 = w.alloc (.cells #[.int .i64 h.fl, .int .i64 h.gp, .int .i64 h.ln, .int .i64 h.rf, .int .i64 h.sp, .int .i64 h.pu, .int .i64 h.br, .int .i64 h.dr, .int .i64 h.lv, .int .i64 h.dO, .int .i64 h.ld, .int .i64 h.qu] 25)) := hW0
  clear hW0
  unfold Hs.fmE
  by_cases hk : Hs.tr h l = 0
  case neg =>
    rw [if_neg hk]
    have hn : (Hs.tr h l != 0) = true := by simpa using hk
    clear hk
    go_enter Tryz.func7, Tryz.ntmps7
    go_upto_region 1 with fail
    rw [← HW0.out]
    go_wp2_with (first | (refine load_blk 25 _ Tryz.underlying25 (by kernel_rfl) F0.out rfl rfl rfl ?_) | (go_at_call 15; refine (specTrace_any h l a cap hl hcap _ ((HE.out.below FB.out (Nat.le_refl _)).mono FB.out.size)).mono ?_; rintro r w1 ⟨rfl, hb⟩; have FB : Hid (Below w.heap.size w w1) := FB.out.trans (hb.mono FB.out.size); clear hb))
    go_ret
    exact ⟨rfl, FB.out⟩
  rw [if_pos hk]
  obtain ⟨h200, hall⟩ := tr_all hk
  have HA : Hid (∀ e ∈ l, EvI e ∧ 1 ≤ e.kd ∧ e.kd ≤ 5) := hall
  have HI : Hid (∀ e ∈ l, EvI e) := fun e he => (hall e he).1
  clear hall
  go_enter Tryz.func7, Tryz.ntmps7
  go_upto_region 1 with fail
  rw [← HW0.out]
  go_wp2_with (first | (refine load_blk 25 _ Tryz.underlying25 (by kernel_rfl) F0.out rfl rfl rfl ?_) | (go_at_call 15; refine (specTrace_any h l a cap hl hcap _ ((HE.out.below FB.out (Nat.le_refl _)).mono FB.out.size)).mono ?_; rw [hk]; rintro r w1 ⟨rfl, hb⟩; have FB : Hid (Below w.heap.size w w1) := FB.out.trans (hb.mono FB.out.size); clear hb))
  clear F0 HW0 hk
  go_loopw [5, 6] (fun ss ii wr => ∃ (i : Nat) (u : ByteArray), ii = .int .i64 (i : Int) ∧ ss = .string u ∧ u = evTx (l.take i) ∧ i ≤ l.length ∧ Below w.heap.size w wr) (fun _ ii _ => l.length - (intOf ii).toNat)
  case atStart => exact ⟨0, _, rfl, rfl, rfl, by omega, FB.out⟩
  case round =>
    obtain ⟨i, u, rfl, rfl, hu, hin, hB⟩ := hrel
    clear FB
    have FB : Hid (Below w.heap.size w wr) := hB
    have us := evTx_take HI.out h200 i
    rw [← hu] at us
    have HU : Hid (u = evTx (l.take i)) := hu
    clear hu hB
    by_cases hlt : i < l.length
    · obtain ⟨e, he⟩ : ∃ e, l[i]? = some e := ⟨_, List.getElem?_eq_getElem hlt⟩
      obtain ⟨eI, e1, e5⟩ := HA.out e (List.mem_of_getElem? he)
      have ls := evLn_size eI
      rcases HE.out with h0 | ⟨b, o, rfl, hbl, h5⟩
      · rw [h0] at hlt; simp at hlt
      obtain ⟨c0, c1, c2, c3, c4⟩ := (h5 i e he).below FB.out hbl
      have HU2 : Hid (evTx (l.take (i + 1)) = u ++ evLn e) := by rw [evTx_snoc he, HU.out]; exact rfl
      have s1 : ¬ (9223372036854775807 < u.size + (evLn e).size) := by omega
      clear he h5 HU us ls HE HA HI
      go_wp2_with (go_at_call 16; refine (l10Line_any e eI e1 e5 _).mono ?_; rintro r w2 ⟨rfl, hb⟩; have FB : Hid (Below w.heap.size w w2) := FB.out.trans (hb.mono FB.out.size); clear hb)
      go_roundw
      case rel => exact ⟨i + 1, _, by simp, rfl, by rw [HU2.out], by omega, FB.out⟩
      case measure => simp [intOf]; omega
    · have ei : i = l.length := by omega
      have hge : (l.length : Int) ≤ (i : Int) := by omega
      have HU3 : Hid (u = evTx l) := by have := HU.out; rw [ei, List.take_length] at this; exact this
      clear ei HU HE HA HI
      go_wp2_with fail
      go_ret
      exact ⟨ret_str HU3.out, FB.out⟩
end Go.Proofs.YtoacnglcneliiaaGreatDoor
