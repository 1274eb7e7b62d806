/-
  A list of events is drawn.
-/
import Derived.Test.YtoacnglcneliiaaGreatDoorEdP
import Derived.Test.YtoacnglcneliiaaGreatDoorDrawNe
import Derived.WalkMore
import Derived.Deep.DeepCutAuto
namespace Go.Proofs.YtoacnglcneliiaaGreatDoor
open Go.RowKit Pl
set_option linter.unusedSimpArgs false
set_option linter.unusedVariables false

set_option maxRecDepth 20000 in
set_option maxHeartbeats 64000000 in
theorem l10Events_t (h : Hs) (l1 : 2 ≤ h.fl) (l2 : h.fl ≤ 12) (sb B : Nat) (a : Option Addr) (len cap T : Nat) (w : World) (hS : SrcT w sb B a len cap T) (hT : T ≤ 700000) :
    Calls Tryz.prog 23 #[.pointer (some ⟨sb, 0, none⟩), .agg #[.int .i64 h.fl, .int .i64 h.gp, .int .i64 h.ln, .int .i64 h.rf, .int .i64 h.sp, .int .i64 h.pu, .int .i64 h.br, .int .i64 h.dr, .int .i64 h.lv, .int .i64 h.dO, .int .i64 h.ld, .int .i64 h.qu]] w fun e w' => ∃ (v : Value) (l : List Ev), e = .returned v ∧ OwnE w' w.heap.size v l ∧ l.length ≤ 201 ∧ SrcT w' sb B a len cap (T + 1000) ∧ Keeps sb w w' := by
  have lsb := hS.lt
  obtain ⟨W0, hW0⟩ : ∃ W0, W0 = (w.alloc (.cells #[.int .i64 h.fl, .int .i64 h.gp, .int .i64 h.ln, .int .i64 h.rf, .int .i64 h.sp, .int .i64 h.pu, .int .i64 h.br, .int .i64 h.dr, .int .i64 h.lv, .int .i64 h.dO, .int .i64 h.ld, .int .i64 h.qu] 25)).alloc (.cells #[] 34) := ⟨_, rfl⟩
  have E : Hid (Ea W0 w sb B a len cap (T) h (.slice (some ⟨w.heap.size + 1, 0, none⟩) 0 0) ([])) := by
    rw [hW0]
    refine ⟨(Blk.at_ w #[.int .i64 h.fl, .int .i64 h.gp, .int .i64 h.ln, .int .i64 h.rf, .int .i64 h.sp, .int .i64 h.pu, .int .i64 h.br, .int .i64 h.dr, .int .i64 h.lv, .int .i64 h.dO, .int .i64 h.ld, .int .i64 h.qu] _ _ rfl).alloc _, (hS.alloc _).alloc _, ((Keeps.refl _ _).alloc _).alloc _, ?_, lsb⟩
    have q := World.ownsRow_lit (base := w.heap.size + 1) (e := 34) (size := 5) (w.alloc (.cells #[.int .i64 h.fl, .int .i64 h.gp, .int .i64 h.ln, .int .i64 h.rf, .int .i64 h.sp, .int .i64 h.pu, .int .i64 h.br, .int .i64 h.dr, .int .i64 h.lv, .int .i64 h.dO, .int .i64 h.ld, .int .i64 h.qu] 25)) #[] 0 (by simp) (by unfold maxLen; omega) rfl
    unfold OwnE
    simpa [flatE] using q
  have HW0 : Hid (W0 = (w.alloc (.cells #[.int .i64 h.fl, .int .i64 h.gp, .int .i64 h.ln, .int .i64 h.rf, .int .i64 h.sp, .int .i64 h.pu, .int .i64 h.br, .int .i64 h.dr, .int .i64 h.lv, .int .i64 h.dO, .int .i64 h.ld, .int .i64 h.qu] 25)).alloc (.cells #[] 34)) := hW0
  clear hW0 hS
  go_enter Tryz.func23, Tryz.ntmps23
  go_upto_region 2 with fail
  rw [← HW0.out]
  clear HW0
  go_upto_region 5 with (go_at_call 44; refine (l1Next_t sb B a len cap T 12 _ E.out.fs (by omega) (by omega) (by omega)).mono ?_; rintro e w1 ⟨k0, rfl, hk0, hs, hk⟩; have E : Hid (Ea w1 w sb B a len cap (T + 1) h (.slice (some ⟨w.heap.size + 1, 0, none⟩) 0 0) ([])) := E.out.keeps hk hs; clear hk hs)
  go_loopw [5, 6, 7, 8] (fun vv tt mm kk wr => ∃ (k m tn : Nat) (v : Value) (l : List Ev), vv = v ∧ tt = .int .i64 (tn : Int) ∧ mm = .int .i64 (m : Int) ∧ kk = .int .i64 (k : Int) ∧ k ≤ 12 ∧ 1 ≤ m ∧ m + k ≤ 13 ∧ tn + 4 * k ≤ 48 ∧ l.length + k ≤ 12 ∧ (∀ x ∈ l, 1 ≤ x.kd ∧ x.kd ≤ 5) ∧ Ea wr w sb B a len cap (T + 1 + (12 - k) * 40) h v l) (fun _ _ _ kk _ => (intOf kk).toNat)
  case atStart => exact ⟨k0, 1, 0, _, [], rfl, rfl, rfl, rfl, by omega, by omega, by omega, by omega, by simp; omega, (by simp), E.out.more (by omega)⟩
  case round =>
    obtain ⟨k, m, tn, v, l, hvv, rfl, rfl, rfl, hk12, hm1, hmk, htn, hlk, hkd, hE⟩ := hrel
    have hvv' := hvv.symm
    subst hvv'
    obtain ⟨va, vc, rfl, -⟩ := hE.fo.pin
    clear E
    obtain ⟨U, hU⟩ : ∃ U, T + 1 + (12 - k) * 40 = U := ⟨_, rfl⟩
    rw [hU] at hE
    have hUb : U ≤ T + 481 := by omega
    have E : Hid (Ea wr w sb B a len cap (U) h (.slice va l.length vc) l) := hE
    have HKD : Hid (∀ x ∈ l, 1 ≤ x.kd ∧ x.kd ≤ 5) := hkd
    clear hE hkd
    rcases Nat.eq_zero_or_pos k with hk0 | hkp
    · subst hk0
      clear HKD
      obtain ⟨T1, hT1⟩ : ∃ T1, T1 = U + 1 := ⟨_, rfl⟩
      have hT1b : T1 ≤ T + 482 := by omega
      go_upto_region 30 with fail
      go_cut [117] (fun c wx => ∃ b : Bool, c = .bool b ∧ (l = [] → b = false) ∧ Ea wx w sb B a len cap (T1) h (.slice va l.length vc) l)
      case first =>
        by_cases hl0 : l = []
        · subst hl0
          have E : Hid (Ea wr w sb B a len cap (U) h (.slice va 0 vc) ([])) := E.out
          go_wp2_with fail
          go_meet
          case rel => exact ⟨false, rfl, fun _ => rfl, E.out.more (by omega)⟩
        · have hlp : 0 < l.length := List.length_pos_iff.2 hl0
          have dl : decide ((0 : Int) < (l.length : Int)) = true := decide_eq_true (by omega)
          go_wp2_with (go_at_call 24; refine (l1Chance_t sb B a len cap U 12 _ E.out.fs (by omega) (by omega) (by omega)).mono ?_; rintro e w1 ⟨cc, rfl, hs, hk⟩; have E : Hid (Ea w1 w sb B a len cap (U + 1) h (.slice va l.length vc) l) := E.out.keeps hk hs; clear hk hs)
          go_meet
          case rel => exact ⟨cc, rfl, fun e => absurd e hl0, E.out.more (by omega)⟩
      case rest =>
      obtain ⟨b, rfl, hbl, hE⟩ := hcut
      clear E
      have E : Hid (Ea wc w sb B a len cap (T1) h (.slice va l.length vc) l) := hE
      clear hE
      go_upto_if 117 with fail
      go_cut [14] (fun _ wx => ∃ l' : List Ev, l'.length = l.length ∧ Ea wx w sb B a len cap (T1 + 1 + 1 + 1) h (.slice va l.length vc) (l'))
      case first =>
        cases b
        · go_wp2_with fail
          go_meet
          case rel => exact ⟨l, rfl, E.out.more (by omega)⟩
        · have hl0 : ¬ l = [] := fun e => by cases hbl e
          have hlp : 0 < l.length := List.length_pos_iff.2 hl0
          have hlpi : (1 : Int) ≤ (l.length : Int) := by omega
          rcases E.out.fo.cases with ⟨_, e⟩ | ⟨g, c', e, _⟩
          · exact absurd e hl0
          injection e with e1 e2 e3
          subst e1 e3
          have E : Hid (Ea wc w sb B a len cap (T1) h (.slice (some ⟨g, 0, none⟩) l.length vc) l) := E.out
          clear e2
          go_upto_region 32 with (go_at_call 44; refine (l1Next_t sb B a len cap T1 (l.length : Int) _ E.out.fs (by omega) hlpi (by omega)).mono ?_; rintro e w2 ⟨ix, rfl, hix, hs, hk⟩; have E : Hid (Ea w2 w sb B a len cap (T1 + 1) h (.slice (some ⟨g, 0, none⟩) l.length vc) l) := E.out.keeps hk hs; clear hk hs)
          obtain ⟨p, hp⟩ : ∃ p, l[ix]? = some p := ⟨_, List.getElem?_eq_getElem (by omega)⟩
          have HP : Hid (l[ix]? = some p) := hp
          clear hp
          go_upto_region 33 with (go_at_call 44; refine (l1Next_t sb B a len cap (T1 + 1) 5 _ E.out.fs (by omega) (by omega) (by omega)).mono ?_; rintro e w3 ⟨c5, rfl, hc5, hs, hk⟩; have E : Hid (Ea w3 w sb B a len cap (T1 + 1 + 1) h (.slice (some ⟨g, 0, none⟩) l.length vc) l) := E.out.keeps hk hs; clear hk hs)
          have f0 := E.out.f0.c 0 _ rfl
          have hc5' : c5 = 0 ∨ c5 = 1 ∨ c5 = 2 ∨ c5 = 3 ∨ c5 = 4 := by omega
          rcases hc5' with rfl | rfl | rfl | rfl | rfl
          · go_wp2_with (go_at_call 45; refine (l1Pick_t sb B w3.heap.size [(-1), 0, 1000000000000000] (fun _ => True) (fun _ _ => trivial) a len cap (T1 + 1 + 1) _ (E.out.alloc _).fs (by omega) (LstAt.new w3 [(-1), 0, 1000000000000000] 2 _ rfl (by simp)) (by simp) (by have := E.out.fs.lt; omega)).mono ?_; rintro e w4 ⟨pv, rfl, -, hs, hk⟩; have E : Hid (Ea w4 w sb B a len cap (T1 + 1 + 1 + 1) h (.slice (some ⟨g, 0, none⟩) l.length vc) l) := (E.out.alloc _).keeps hk hs; have z0 := (E.out.five HP.out).1.c0; have gz := (E.out.five HP.out).2 (ix * 5); clear hk hs)
            go_meet
            case rel => exact ⟨l.set ix ⟨pv, p.kd, p.id, p.fl, p.tw⟩, by simp, E.out.setE (k := 0) HP.out (by omega) rfl⟩
          · go_wp2_with (go_at_call 45; refine (l1Pick_t sb B w3.heap.size [0, 6, 1] (fun _ => True) (fun _ _ => trivial) a len cap (T1 + 1 + 1) _ (E.out.alloc _).fs (by omega) (LstAt.new w3 [0, 6, 1] 2 _ rfl (by simp)) (by simp) (by have := E.out.fs.lt; omega)).mono ?_; rintro e w4 ⟨pv, rfl, -, hs, hk⟩; have E : Hid (Ea w4 w sb B a len cap (T1 + 1 + 1 + 1) h (.slice (some ⟨g, 0, none⟩) l.length vc) l) := (E.out.alloc _).keeps hk hs; have z1 := (E.out.five HP.out).1.c1; have gz := (E.out.five HP.out).2 (ix * 5 + 1); clear hk hs)
            go_meet
            case rel => exact ⟨l.set ix ⟨p.tk, pv, p.id, p.fl, p.tw⟩, by simp, E.out.setE (k := 1) HP.out (by omega) rfl⟩
          · go_wp2_with (go_at_call 45; refine (l1Pick_t sb B w3.heap.size [(-1), h.fl, 0] (fun _ => True) (fun _ _ => trivial) a len cap (T1 + 1 + 1) _ (E.out.alloc _).fs (by omega) (LstAt.new w3 [(-1), h.fl, 0] 2 _ rfl (by simp)) (by simp) (by have := E.out.fs.lt; omega)).mono ?_; rintro e w4 ⟨pv, rfl, -, hs, hk⟩; have E : Hid (Ea w4 w sb B a len cap (T1 + 1 + 1 + 1) h (.slice (some ⟨g, 0, none⟩) l.length vc) l) := (E.out.alloc _).keeps hk hs; have z3 := (E.out.five HP.out).1.c3; have gz := (E.out.five HP.out).2 (ix * 5 + 3); clear hk hs)
            go_meet
            case rel => exact ⟨l.set ix ⟨p.tk, p.kd, p.id, pv, p.tw⟩, by simp, E.out.setE (k := 3) HP.out (by omega) rfl⟩
          · go_wp2_with (go_at_call 45; refine (l1Pick_t sb B w3.heap.size [1, 0] (fun _ => True) (fun _ _ => trivial) a len cap (T1 + 1 + 1) _ (E.out.alloc _).fs (by omega) (LstAt.new w3 [1, 0] 2 _ rfl (by simp)) (by simp) (by have := E.out.fs.lt; omega)).mono ?_; rintro e w4 ⟨pv, rfl, -, hs, hk⟩; have E : Hid (Ea w4 w sb B a len cap (T1 + 1 + 1 + 1) h (.slice (some ⟨g, 0, none⟩) l.length vc) l) := (E.out.alloc _).keeps hk hs; have z4 := (E.out.five HP.out).1.c4; have gz := (E.out.five HP.out).2 (ix * 5 + 4); clear hk hs)
            go_meet
            case rel => exact ⟨l.set ix ⟨p.tk, p.kd, p.id, p.fl, pv⟩, by simp, E.out.setE (k := 4) HP.out (by omega) rfl⟩
          · go_wp2_with (go_at_call 45; refine (l1Pick_t sb B w3.heap.size [0, 9] (fun _ => True) (fun _ _ => trivial) a len cap (T1 + 1 + 1) _ (E.out.alloc _).fs (by omega) (LstAt.new w3 [0, 9] 2 _ rfl (by simp)) (by simp) (by have := E.out.fs.lt; omega)).mono ?_; rintro e w4 ⟨pv, rfl, -, hs, hk⟩; have E : Hid (Ea w4 w sb B a len cap (T1 + 1 + 1 + 1) h (.slice (some ⟨g, 0, none⟩) l.length vc) l) := (E.out.alloc _).keeps hk hs; have z2 := (E.out.five HP.out).1.c2; have gz := (E.out.five HP.out).2 (ix * 5 + 2); clear hk hs)
            go_meet
            case rel => exact ⟨l.set ix ⟨p.tk, p.kd, pv, p.fl, p.tw⟩, by simp, E.out.setE (k := 2) HP.out (by omega) rfl⟩
      case rest =>
      obtain ⟨l', hl', hE⟩ := hcut
      clear E
      have E : Hid (Ea wc w sb B a len cap (T1 + 1 + 1 + 1) h (.slice va l.length vc) (l')) := hE
      clear hE
      obtain ⟨cs, hmk, hOW⟩ := mk201
      have HOW : Hid (∀ (w : World) (B : Nat), B ≤ w.heap.size → OwnE (w.alloc (.cells cs 34)) B (.slice (some ⟨w.heap.size, 0, none⟩) 201 201) (List.replicate 201 zeroE)) := hOW
      clear hOW
      go_upto_if 172 with (go_at_call 24; refine (l1Chance_t sb B a len cap (T1 + 1 + 1 + 1) 50 _ E.out.fs (by omega) (by omega) (by omega)).mono ?_; rintro e w1 ⟨cc, rfl, hs, hk⟩; have E : Hid (Ea w1 w sb B a len cap (T1 + 1 + 1 + 1 + 1) h (.slice va l.length vc) (l')) := E.out.keeps hk hs; clear hk hs)
      cases cc
      · go_wp2_with fail
        go_ret
        exact ⟨_, l', rfl, ownE_base E.out.fo (by omega), by omega, E.out.fs.more (by omega), E.out.fk⟩
      · go_wp2_with fail
        go_ret
        exact ⟨_, _, rfl, HOW.out w1 _ (by have := E.out.f0.lt; omega), by simp, (E.out.fs.alloc _).more (by omega), E.out.fk.alloc _⟩
    · have HC9 : Hid (U + 40 ≤ T + 1 + (12 - (k - 1)) * 40) := by show _ ≤ _; omega
      obtain ⟨j, rfl⟩ : ∃ j, k = j + 1 := ⟨k - 1, by omega⟩
      clear hU
      have hgt : (0 : Int) < (j : Int) + 1 := by omega
      go_upto_region 8 with (go_at_call 44; refine (l1Next_t sb B a len cap (U) 4 _ E.out.fs (by omega) (by omega) (by omega)).mono ?_; rintro e w2 ⟨x1, rfl, hx1, hs, hk⟩; have E : Hid (Ea w2 w sb B a len cap (U + 1) h (.slice va l.length vc) l) := E.out.keeps hk hs; clear hk hs)
      have hx1 := hx1
      have ew1 : IntKind.i64.wrap ((tn : Int) + (x1 : Int)) = (tn : Int) + (x1 : Int) := IntWalk.i64_in _ (by omega)
      have hm1i : (1 : Int) ≤ (m : Int) := by omega
      have mk : Hid (0 = 0) := rfl
      go_upto_region 9 with (first | (clear mk; (go_at_call 44; refine (l1Next_t sb B a len cap (U + 1) 5 _ E.out.fs (by omega) (by omega) (by omega)).mono ?_; rintro e w3 ⟨x2, rfl, hx2, hs, hk⟩; have E : Hid (Ea w3 w sb B a len cap (U + 1 + 1) h (.slice va l.length vc) l) := E.out.keeps hk hs; clear hk hs)) | (go_at_call 44; refine (l1Next_t sb B a len cap (U + 1 + 1) (m : Int) _ E.out.fs (by omega) hm1i (by omega)).mono ?_; rintro e w4 ⟨x3, rfl, hx3, hs, hk⟩; have E : Hid (Ea w4 w sb B a len cap (U + 1 + 1 + 1) h (.slice va l.length vc) l) := E.out.keeps hk hs; clear hk hs) | (refine store_new [.int .i64 ((tn : Int) + (x1 : Int)), .int .i64 (1 + (x2 : Int)), .int .i64 (1 + (x3 : Int)), .int .i64 0, .int .i64 0] 34 _ _ (by kernel_rfl) (by kernel_rfl) (by kernel_rfl) rfl rfl rfl rfl ?_))
      obtain ⟨eb, heb⟩ : ∃ eb, eb = w4.heap.size := ⟨_, rfl⟩
      obtain ⟨w5, hw5⟩ : ∃ W, W = w4.alloc (.cells #[.int .i64 ((tn : Int) + (x1 : Int)), .int .i64 (1 + (x2 : Int)), .int .i64 (1 + (x3 : Int)), .int .i64 0, .int .i64 0] 34) := ⟨_, rfl⟩
      have E : Hid (Ed w5 w sb B a len cap (U + 1 + 1 + 1) h (.slice va l.length vc) l eb [.int .i64 ((tn : Int) + (x1 : Int)), .int .i64 (1 + (x2 : Int)), .int .i64 (1 + (x3 : Int)), .int .i64 0, .int .i64 0]) := by rw [hw5, heb]; exact E.out.ed #[.int .i64 ((tn : Int) + (x1 : Int)), .int .i64 (1 + (x2 : Int)), .int .i64 (1 + (x3 : Int)), .int .i64 0, .int .i64 0] _
      (try simp only [Act.put])
      rw [← hw5, ← heb]
      clear hw5 heb
      go_cut [40] (fun c wx => ∃ b : Bool, c = .bool b ∧ Ed wx w sb B a len cap (U + 4) h (.slice va l.length vc) l eb [.int .i64 ((tn : Int) + (x1 : Int)), .int .i64 (1 + (x2 : Int)), .int .i64 (1 + (x3 : Int)), .int .i64 0, .int .i64 0])
      case first =>
        by_cases m1 : m = 1
        · subst m1
          go_wp2_with fail
          go_meet
          case rel => exact ⟨true, rfl, E.out.more (by omega)⟩
        · have mb : ((m : Int) == 1) = false := by simp; omega
          go_wp2_with (go_at_call 24; refine (l1Chance_t sb B a len cap (U + 1 + 1 + 1) 4 _ E.out.ea.fs (by omega) (by omega) (by omega)).mono ?_; rintro e w6 ⟨cc, rfl, hs, hk⟩; have E : Hid (Ed w6 w sb B a len cap (U + 1 + 1 + 1 + 1) h (.slice va l.length vc) l eb [.int .i64 ((tn : Int) + (x1 : Int)), .int .i64 (1 + (x2 : Int)), .int .i64 (1 + (x3 : Int)), .int .i64 0, .int .i64 0]) := E.out.keeps hk hs; clear hk hs)
          go_meet
          case rel => exact ⟨cc, rfl, E.out⟩
      case rest =>
      obtain ⟨b, rfl, hE⟩ := hcut
      clear E
      have E : Hid (Ed wc w sb B a len cap (U + 4) h (.slice va l.length vc) l eb [.int .i64 ((tn : Int) + (x1 : Int)), .int .i64 (1 + (x2 : Int)), .int .i64 (1 + (x3 : Int)), .int .i64 0, .int .i64 0]) := hE
      clear hE
      go_upto_if 40 with fail
      go_cut [9] (fun p wx => p = .pointer (some ⟨eb, 0, none⟩) ∧ ∃ kd : Int, 1 ≤ kd ∧ kd ≤ 5 ∧ Ed wx w sb B a len cap (U + 4) h (.slice va l.length vc) l eb [.int .i64 ((tn : Int) + (x1 : Int)), .int .i64 kd, .int .i64 (1 + (x3 : Int)), .int .i64 0, .int .i64 0])
      case first =>
        cases b
        · go_wp2_with fail
          go_meet
          case rel => exact ⟨rfl, 1 + (x2 : Int), by omega, by omega, E.out⟩
        · have y1 := E.out.fe.c 1 _ rfl
          have g1 := E.out.fe.f 1 (by simp)
          go_wp2_with fail
          go_meet
          case rel => exact ⟨rfl, 1, by omega, by omega, E.out.put 1 (.int .i64 1) (by simp)⟩
      case rest =>
      obtain ⟨rfl, kd, hd1, hd5, hE⟩ := hcut
      clear E
      have E : Hid (Ed wc w sb B a len cap (U + 4) h (.slice va l.length vc) l eb [.int .i64 ((tn : Int) + (x1 : Int)), .int .i64 kd, .int .i64 (1 + (x3 : Int)), .int .i64 0, .int .i64 0]) := hE
      clear hE
      have y1 := E.out.fe.c 1 _ rfl
      have g1 := E.out.fe.f 1 (by simp)
      go_upto_if 44 with fail
      go_cut [9] (fun p wx => p = .pointer (some ⟨eb, 0, none⟩) ∧ ∃ kd ii ff gg : Int, 1 ≤ kd ∧ kd ≤ 5 ∧ Ed wx w sb B a len cap (U + 4 + 10 + 1) h (.slice va l.length vc) l eb [.int .i64 ((tn : Int) + (x1 : Int)), .int .i64 kd, .int .i64 ii, .int .i64 ff, .int .i64 gg])
      case first =>
        clear y1 g1
        by_cases k1 : kd = 1
        · subst k1
          have kb1 : ((1 : Int) == 1) = true := rfl
          have y2 := E.out.fe.c 2 _ rfl
          have g2 := E.out.fe.f 2 (by simp)
          go_upto_region 13 with fail
          obtain ⟨w9, hw2⟩ : ∃ W, W = wc.setCell ⟨eb, 2, none⟩ (.int .i64 ((m : Int))) := ⟨_, rfl⟩
          have E : Hid (Ed w9 w sb B a len cap (U + 4) h (.slice va l.length vc) l eb [.int .i64 ((tn : Int) + (x1 : Int)), .int .i64 1, .int .i64 ((m : Int)), .int .i64 0, .int .i64 0]) := by rw [hw2]; exact E.out.put 2 (.int .i64 ((m : Int))) (by simp)
          rw [← hw2]
          clear hw2
          clear y2 g2
          go_upto_region 14 with (first | (refine load_blk 25 _ Tryz.underlying25 (by kernel_rfl) E.out.ea.f0 rfl rfl rfl ?_) | (go_at_call 47; refine (l7Two_t h l1 l2 sb B a len cap (U + 4) _ E.out.ea.fs (by omega)).mono ?_; rintro e wa ⟨x, y, rfl, hs, hk⟩; have E : Hid (Ed wa w sb B a len cap (U + 4 + 10) h (.slice va l.length vc) l eb [.int .i64 ((tn : Int) + (x1 : Int)), .int .i64 1, .int .i64 ((m : Int)), .int .i64 0, .int .i64 0]) := E.out.keeps hk hs; clear hk hs))
          have y3 := E.out.fe.c 3 _ rfl
          have g3 := E.out.fe.f 3 (by simp)
          go_upto_region 15 with fail
          obtain ⟨wb, hw2⟩ : ∃ W, W = wa.setCell ⟨eb, 3, none⟩ (.int .i64 x) := ⟨_, rfl⟩
          have E : Hid (Ed wb w sb B a len cap (U + 4 + 10) h (.slice va l.length vc) l eb [.int .i64 ((tn : Int) + (x1 : Int)), .int .i64 1, .int .i64 ((m : Int)), .int .i64 x, .int .i64 0]) := by rw [hw2]; exact E.out.put 3 (.int .i64 x) (by simp)
          rw [← hw2]
          clear hw2
          clear y3 g3
          have y4 := E.out.fe.c 4 _ rfl
          have g4 := E.out.fe.f 4 (by simp)
          go_wp2_with fail
          go_meet
          case rel => exact ⟨rfl, 1, (m : Int), x, y, by omega, by omega, (E.out.put 4 (.int .i64 y) (by simp)).more (by omega)⟩
        · have kb1 : (kd == 1) = false := by simpa using k1
          have y2 := E.out.fe.c 2 _ rfl
          have g2 := E.out.fe.f 2 (by simp)
          obtain ⟨ok, hok⟩ : ∃ ok, (callOf l (1 + (x3 : Int))).isSome = ok := ⟨_, rfl⟩
          have CC := fun W q => l10Call_any va vc l (1 + (x3 : Int)) (by omega) W q
          rw [hok] at CC
          clear hok
          go_upto_region 17 with (first | (go_at_call 48; refine (CC _ E.out.ea.ein).mono ?_; rintro e w6 ⟨⟨c, rfl, -⟩, hb⟩; have E : Hid (Ed w6 w sb B a len cap (U + 4) h (.slice va l.length vc) l eb [.int .i64 ((tn : Int) + (x1 : Int)), .int .i64 kd, .int .i64 (1 + (x3 : Int)), .int .i64 0, .int .i64 0]) := E.out.below hb; clear hb) | (refine store_new [.int .i64 c.tk, .int .i64 c.kd, .int .i64 c.id, .int .i64 c.fl, .int .i64 c.tw] 34 _ _ (by kernel_rfl) (by kernel_rfl) (by kernel_rfl) rfl rfl rfl rfl ?_))
          obtain ⟨cb, hcb⟩ : ∃ cb, cb = w6.heap.size := ⟨_, rfl⟩
          obtain ⟨w7, hw7⟩ : ∃ W, W = w6.alloc (.cells #[.int .i64 c.tk, .int .i64 c.kd, .int .i64 c.id, .int .i64 c.fl, .int .i64 c.tw] 34) := ⟨_, rfl⟩
          have FC : Hid (Blk w7 cb [.int .i64 c.tk, .int .i64 c.kd, .int .i64 c.id, .int .i64 c.fl, .int .i64 c.tw]) := by rw [hw7]; exact Blk.at_ w6 #[.int .i64 c.tk, .int .i64 c.kd, .int .i64 c.id, .int .i64 c.fl, .int .i64 c.tw] _ _ hcb
          have hcl : eb < cb := by rw [hcb]; exact E.out.fe.lt
          have E : Hid (Ed w7 w sb B a len cap (U + 4) h (.slice va l.length vc) l eb [.int .i64 ((tn : Int) + (x1 : Int)), .int .i64 kd, .int .i64 (1 + (x3 : Int)), .int .i64 0, .int .i64 0]) := by rw [hw7]; exact E.out.alloc _
          have hsb : sb < cb := by have := E.out.ea.ls; have := E.out.lo; omega
          (try simp only [Act.put])
          rw [← hw7, ← hcb]
          clear hw7 hcb y2 g2 CC
          cases ok
          · go_wp2_with fail
            go_meet
            case rel => exact ⟨rfl, kd, 1 + (x3 : Int), 0, 0, hd1, hd5, E.out.more (by omega)⟩
          have z3 := FC.out.c 3 _ rfl
          have z4 := FC.out.c 4 _ rfl
          have y3 := E.out.fe.c 3 _ rfl
          have g3 := E.out.fe.f 3 (by simp)
          go_upto_region 19 with fail
          obtain ⟨w8, hw2⟩ : ∃ W, W = w7.setCell ⟨eb, 3, none⟩ (.int .i64 (c.fl)) := ⟨_, rfl⟩
          have E : Hid (Ed w8 w sb B a len cap (U + 4) h (.slice va l.length vc) l eb [.int .i64 ((tn : Int) + (x1 : Int)), .int .i64 kd, .int .i64 (1 + (x3 : Int)), .int .i64 (c.fl), .int .i64 0]) := by rw [hw2]; exact E.out.put 3 (.int .i64 (c.fl)) (by simp)
          have FC : Hid (Blk w8 cb [.int .i64 c.tk, .int .i64 c.kd, .int .i64 c.id, .int .i64 c.fl, .int .i64 c.tw]) := by rw [hw2]; exact FC.out.other (by omega)
          rw [← hw2]
          clear hw2
          clear y3 g3 z3 z4
          obtain ⟨st, hst⟩ : ∃ st, stOf l (1 + (x3 : Int)) = st := ⟨_, rfl⟩
          have CS := fun W q => l10State_any va vc l (1 + (x3 : Int)) (by omega) HKD.out W q
          rw [hst] at CS
          clear hst
          have y2 := E.out.fe.c 2 _ rfl
          have g2 := E.out.fe.f 2 (by simp)
          go_upto_if 72 with (go_at_call 49; refine (CS _ E.out.ea.ein).mono ?_; rintro e w' ⟨rfl, hw⟩; rw [hw]; clear hw)
          go_cut [9] (fun p wx => p = .pointer (some ⟨eb, 0, none⟩) ∧ ∃ kd ff : Int, 1 ≤ kd ∧ kd ≤ 5 ∧ Ed wx w sb B a len cap (U + 4 + 1) h (.slice va l.length vc) l eb [.int .i64 ((tn : Int) + (x1 : Int)), .int .i64 kd, .int .i64 (1 + (x3 : Int)), .int .i64 ff, .int .i64 0])
          case first =>
            by_cases s1 : st = 1
            · subst s1
              have sb1 : ((1 : Int) == 1) = true := rfl
              have y1 := E.out.fe.c 1 _ rfl
              have g1 := E.out.fe.f 1 (by simp)
              go_upto_region 21 with (go_at_call 45; refine (l1Pick_t sb B w8.heap.size [3, 3, 4] (fun y => 1 ≤ y ∧ y ≤ 5) (by simp) a len cap (U + 4) _ (E.out.alloc _).ea.fs (by omega) (LstAt.new w8 [3, 3, 4] 2 _ rfl (by simp)) (by simp) (by have := E.out.ea.fs.lt; omega)).mono ?_; rintro e w9 ⟨pv, rfl, hpv, hs, hk⟩; have FC : Hid (Blk w9 cb [.int .i64 c.tk, .int .i64 c.kd, .int .i64 c.id, .int .i64 c.fl, .int .i64 c.tw]) := (FC.out.alloc _).of (hk.block _ (FC.out.alloc _).lt (by omega)); have E : Hid (Ed w9 w sb B a len cap (U + 4 + 1) h (.slice va l.length vc) l eb [.int .i64 ((tn : Int) + (x1 : Int)), .int .i64 kd, .int .i64 (1 + (x3 : Int)), .int .i64 (c.fl), .int .i64 0]) := (E.out.alloc _).keeps hk hs; have y1 := E.out.fe.c 1 _ rfl; have g1 := E.out.fe.f 1 (by simp); clear hk hs)
              obtain ⟨wa, hw2⟩ : ∃ W, W = w9.setCell ⟨eb, 1, none⟩ (.int .i64 pv) := ⟨_, rfl⟩
              have E : Hid (Ed wa w sb B a len cap (U + 4 + 1) h (.slice va l.length vc) l eb [.int .i64 ((tn : Int) + (x1 : Int)), .int .i64 pv, .int .i64 (1 + (x3 : Int)), .int .i64 (c.fl), .int .i64 0]) := by rw [hw2]; exact E.out.put 1 (.int .i64 pv) (by simp)
              have FC : Hid (Blk wa cb [.int .i64 c.tk, .int .i64 c.kd, .int .i64 c.id, .int .i64 c.fl, .int .i64 c.tw]) := by rw [hw2]; exact FC.out.other (by omega)
              rw [← hw2]
              clear hw2
              clear y1 g1 y2 g2
              have z4 := FC.out.c 4 _ rfl
              have y3 := E.out.fe.c 3 _ rfl
              have g3 := E.out.fe.f 3 (by simp)
              go_wp2_with fail
              go_meet
              case rel => exact ⟨rfl, pv, c.tw, hpv.1, hpv.2, E.out.put 3 (.int .i64 c.tw) (by simp)⟩
            · have sb1 : (st == 1) = false := by simpa using s1
              by_cases s0 : st = 0
              · subst s0
                have sb0 : ((0 : Int) == 0) = true := rfl
                have y1 := E.out.fe.c 1 _ rfl
                have g1 := E.out.fe.f 1 (by simp)
                go_wp2_with (first | (go_at_call 49; refine (CS _ E.out.ea.ein).mono ?_; rintro e w' ⟨rfl, hw⟩; rw [hw]; clear hw) | (go_at_call 45; refine (l1Pick_t sb B w8.heap.size [2, 2, 5] (fun y => 1 ≤ y ∧ y ≤ 5) (by simp) a len cap (U + 4) _ (E.out.alloc _).ea.fs (by omega) (LstAt.new w8 [2, 2, 5] 2 _ rfl (by simp)) (by simp) (by have := E.out.ea.fs.lt; omega)).mono ?_; rintro e w9 ⟨pv, rfl, hpv, hs, hk⟩; have FC : Hid (Blk w9 cb [.int .i64 c.tk, .int .i64 c.kd, .int .i64 c.id, .int .i64 c.fl, .int .i64 c.tw]) := (FC.out.alloc _).of (hk.block _ (FC.out.alloc _).lt (by omega)); have E : Hid (Ed w9 w sb B a len cap (U + 4 + 1) h (.slice va l.length vc) l eb [.int .i64 ((tn : Int) + (x1 : Int)), .int .i64 kd, .int .i64 (1 + (x3 : Int)), .int .i64 (c.fl), .int .i64 0]) := (E.out.alloc _).keeps hk hs; have y1 := E.out.fe.c 1 _ rfl; have g1 := E.out.fe.f 1 (by simp); clear hk hs))
                go_meet
                case rel => exact ⟨rfl, pv, c.fl, hpv.1, hpv.2, E.out.put 1 (.int .i64 pv) (by simp)⟩
              · have sb0 : (st == 0) = false := by simpa using s0
                go_wp2_with (go_at_call 49; refine (CS _ E.out.ea.ein).mono ?_; rintro e w' ⟨rfl, hw⟩; rw [hw]; clear hw)
                go_meet
                case rel => exact ⟨rfl, kd, c.fl, hd1, hd5, E.out.more (by omega)⟩
          case rest =>
          obtain ⟨rfl, kd2, ff, hd1', hd5', hE⟩ := hcut
          clear E hd1 hd5 k1 kb1
          have E : Hid (Ed wc w sb B a len cap (U + 4 + 1) h (.slice va l.length vc) l eb [.int .i64 ((tn : Int) + (x1 : Int)), .int .i64 kd2, .int .i64 (1 + (x3 : Int)), .int .i64 ff, .int .i64 0]) := hE
          clear hE
          have y1 := E.out.fe.c 1 _ rfl
          have g1 := E.out.fe.f 1 (by simp)
          have y3 := E.out.fe.c 3 _ rfl
          have g3 := E.out.fe.f 3 (by simp)
          by_cases k5 : kd2 = 5
          · have kb5 : (kd2 == 5) = true := by simpa using k5
            go_wp2_with fail
            go_meet
            case rel => exact ⟨rfl, kd2, 1 + (x3 : Int), 0, 0, hd1', hd5', (E.out.put 3 (.int .i64 0) (by simp)).more (by omega)⟩
          · have kb5 : (kd2 == 5) = false := by simpa using k5
            go_wp2_with fail
            go_meet
            case rel => exact ⟨rfl, kd2, 1 + (x3 : Int), ff, 0, hd1', hd5', E.out.more (by omega)⟩
      case rest =>
      obtain ⟨rfl, kd, ii, ff, gg, hd1, hd5, hE⟩ := hcut
      clear E
      have E : Hid (Ed wc w sb B a len cap (U + 4 + 10 + 1) h (.slice va l.length vc) l eb [.int .i64 ((tn : Int) + (x1 : Int)), .int .i64 kd, .int .i64 ii, .int .i64 ff, .int .i64 gg]) := hE
      clear hE
      obtain ⟨N, hN⟩ : ∃ N, nextC (callOf l ii) (stOf l ii) ⟨(tn : Int) + (x1 : Int), kd, ii, ff, gg⟩ = N := ⟨_, rfl⟩
      have CN := fun W q => l10Next_any va vc l ⟨(tn : Int) + (x1 : Int), kd, ii, ff, gg⟩ (by omega) HKD.out W q
      rw [hN] at CN
      clear hN
      go_upto_region 26 with fail
      go_cut [101] (fun c wx => ∃ b : Bool, c = .bool b ∧ Ed wx w sb B a len cap (U + 4 + 10 + 1 + 1) h (.slice va l.length vc) l eb [.int .i64 ((tn : Int) + (x1 : Int)), .int .i64 kd, .int .i64 ii, .int .i64 ff, .int .i64 gg])
      case first =>
        by_cases n0 : N = 0
        · subst n0
          have nb : ((0 : Int) == 0) = true := rfl
          go_wp2_with (first | (refine load_blk 34 _ Tryz.underlying34 (by kernel_rfl) E.out.fe rfl rfl rfl ?_) | (go_at_call 31; refine (CN _ E.out.ea.ein).mono ?_; rintro e wa ⟨rfl, hb⟩; have E : Hid (Ed wa w sb B a len cap (U + 4 + 10 + 1) h (.slice va l.length vc) l eb [.int .i64 ((tn : Int) + (x1 : Int)), .int .i64 kd, .int .i64 ii, .int .i64 ff, .int .i64 gg]) := E.out.below hb; clear hb))
          go_meet
          case rel => exact ⟨false, rfl, E.out.more (by omega)⟩
        · have nb : (N == 0) = false := by simpa using n0
          go_wp2_with (first | (refine load_blk 34 _ Tryz.underlying34 (by kernel_rfl) E.out.fe rfl rfl rfl ?_) | (go_at_call 31; refine (CN _ E.out.ea.ein).mono ?_; rintro e wa ⟨rfl, hb⟩; have E : Hid (Ed wa w sb B a len cap (U + 4 + 10 + 1) h (.slice va l.length vc) l eb [.int .i64 ((tn : Int) + (x1 : Int)), .int .i64 kd, .int .i64 ii, .int .i64 ff, .int .i64 gg]) := E.out.below hb; clear hb) | (go_at_call 24; refine (l1Chance_t sb B a len cap (U + 4 + 10 + 1) 20 _ E.out.ea.fs (by omega) (by omega) (by omega)).mono ?_; rintro e wb ⟨cc, rfl, hs, hk⟩; have E : Hid (Ed wb w sb B a len cap (U + 4 + 10 + 1 + 1) h (.slice va l.length vc) l eb [.int .i64 ((tn : Int) + (x1 : Int)), .int .i64 kd, .int .i64 ii, .int .i64 ff, .int .i64 gg]) := E.out.keeps hk hs; clear hk hs))
          go_meet
          case rel => exact ⟨_, rfl, E.out⟩
      case rest =>
      obtain ⟨b, rfl, hE⟩ := hcut
      clear E CN
      have E : Hid (Ed wc w sb B a len cap (U + 4 + 10 + 1 + 1) h (.slice va l.length vc) l eb [.int .i64 ((tn : Int) + (x1 : Int)), .int .i64 kd, .int .i64 ii, .int .i64 ff, .int .i64 gg]) := hE
      clear hE
      have ek : IntKind.i64.wrap ((j : Int) + 1 - 1) = (j : Int) := IntWalk.i64_in _ (by omega) |>.trans (by omega)
      have em : IntKind.i64.wrap ((m : Int) + 1) = (m : Int) + 1 := IntWalk.i64_in _ (by omega)
      cases b
      case true =>
        go_wp2_with fail
        go_roundw
        case rel =>
          exact ⟨j, m, tn + x1, _, l, rfl, (by simp : Value.int .i64 ((tn : Int) + (x1 : Int)) = .int .i64 ((tn + x1 : Nat) : Int)), rfl, rfl, by omega, by omega, by omega, by omega, by omega, HKD.out, E.out.ea.more (by have := HC9.out; simp at this; omega)⟩
        case measure => simp [intOf] <;> omega
      case false =>
        have y1 := E.out.fe.c 1 _ rfl
        have g1 := E.out.fe.f 1 (by simp)
        obtain ⟨L1, hL1⟩ : ∃ L1, l ++ [⟨(tn : Int) + (x1 : Int), kd, ii, ff, gg⟩] = L1 := ⟨_, rfl⟩
        have HL1 : Hid (L1.length = l.length + 1) := by show _ = _; rw [← hL1]; simp
        have HKD1 : Hid (∀ x ∈ L1, 1 ≤ x.kd ∧ x.kd ≤ 5) := by
          intro x hx
          rw [← hL1] at hx
          rcases List.mem_append.1 hx with hx | hx
          · exact HKD.out x hx
          · obtain rfl := List.mem_singleton.1 hx
            exact ⟨hd1, hd5⟩
        by_cases k1 : kd = 1
        · subst k1
          have kb1 : ((1 : Int) == 1) = true := rfl
          go_wp2_with (first | (refine load_blk 34 _ Tryz.underlying34 (by kernel_rfl) E.out.fe rfl rfl rfl ?_) | (at_builtin; go_loud (refine wpE _ _ (w.heap.size + 1) (.slice va l.length vc) l ⟨(tn : Int) + (x1 : Int), 1, ii, ff, gg⟩ _ (E.out.ea.fo.alloc _) (vin_newq _ ⟨(tn : Int) + (x1 : Int), 1, ii, ff, gg⟩) (by omega) (by have := E.out.ea.f0.lt; simp; omega) rfl rfl rfl rfl ?_); intro v1 w6 ho hg2; rw [hL1] at ho; have E : Hid (Ea w6 w sb B a len cap (U + 4 + 10 + 1 + 1) h v1 L1) := (E.out.ea.alloc _).app hg2 ho))
          go_roundw
          case rel =>
            exact ⟨j, m + 1, tn + x1, v1, L1, rfl, (by simp : Value.int .i64 ((tn : Int) + (x1 : Int)) = .int .i64 ((tn + x1 : Nat) : Int)), (by simp : Value.int .i64 ((m : Int) + 1) = .int .i64 ((m + 1 : Nat) : Int)), rfl, by omega, by omega, by omega, by omega, by have := HL1.out; omega, HKD1.out, E.out.more (by have := HC9.out; simp at this; omega)⟩
          case measure => simp [intOf] <;> omega
        · have kb1 : (kd == 1) = false := by simpa using k1
          go_wp2_with (first | (refine load_blk 34 _ Tryz.underlying34 (by kernel_rfl) E.out.fe rfl rfl rfl ?_) | (at_builtin; go_loud (refine wpE _ _ (w.heap.size + 1) (.slice va l.length vc) l ⟨(tn : Int) + (x1 : Int), kd, ii, ff, gg⟩ _ (E.out.ea.fo.alloc _) (vin_newq _ ⟨(tn : Int) + (x1 : Int), kd, ii, ff, gg⟩) (by omega) (by have := E.out.ea.f0.lt; simp; omega) rfl rfl rfl rfl ?_); intro v1 w6 ho hg2; rw [hL1] at ho; have E : Hid (Ea w6 w sb B a len cap (U + 4 + 10 + 1 + 1) h v1 L1) := (E.out.ea.alloc _).app hg2 ho))
          go_roundw
          case rel =>
            exact ⟨j, m, tn + x1, v1, L1, rfl, (by simp : Value.int .i64 ((tn : Int) + (x1 : Int)) = .int .i64 ((tn + x1 : Nat) : Int)), rfl, rfl, by omega, by omega, by omega, by omega, by have := HL1.out; omega, HKD1.out, E.out.more (by have := HC9.out; simp at this; omega)⟩
          case measure => simp [intOf] <;> omega
end Go.Proofs.YtoacnglcneliiaaGreatDoor
