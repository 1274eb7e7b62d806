/-
  A ledger is drawn.
-/
import Derived.Test.YtoekhkolakielaaDrawO
import Derived.Deep.RegionHeld3
import Derived.BigGuardPart
import Derived.WalkMore
import Derived.Deep.DeepCutAuto
namespace Go.Proofs.Ytoekhkolakielaa
open Go.RowKit Pl
set_option linter.unusedSimpArgs false
set_option linter.unusedVariables false

theorem Lg1.setP {w : World} {lb g n cp : Nat} {nx : Int} {l : List Pe} (h : Lg1 w lb nx (.slice (some ⟨g, 0, none⟩) n cp) l) (hn : l.length = n) {i k : Nat} {p q : Pe} {u : Value} (hp : l[i]? = some p) (hk : k < 7) (e : (cells7 p).set k u = cells7 q) (hg : lb ≠ g) : Lg1 (w.setCell ⟨g, i * 7 + k, none⟩ u) lb nx (.slice (some ⟨g, 0, none⟩) n cp) (l.set i q) := by
  have ho : Ow w (lb + 1) g n cp l := by
    subst hn
    exact h.o.ow
  exact ⟨h.f.other hg, (ho.set hp hk e).own, by rw [List.length_set]; exact h.n, h.a, h.b⟩
set_option maxRecDepth 20000 in
set_option maxHeartbeats 400000000 in
theorem l7Ledger_t (h : Hs) (l1 : 2 ≤ h.fl) (l2 : h.fl ≤ 12) (sb B : Nat) (a : Option Addr) (len cap T : Nat) (w : World) (hS : SrcT w sb B a len cap T) (hT : T ≤ 700000) :
    Calls Try.prog 48 #[.pointer (some ⟨sb, 0, none⟩), .agg #[.int .i64 h.fl, .int .i64 h.gp, .int .i64 h.ln, .int .i64 h.rf, .int .i64 h.sp, .int .i64 h.pu, .int .i64 h.br, .int .i64 h.dr, .int .i64 h.lv, .int .i64 h.dO, .int .i64 h.ld, .int .i64 h.qu]] w fun e w' => ∃ (nx : Int) (v : Value) (l : List Pe), e = .returned (.agg #[.int .i64 nx, v]) ∧ Own w' w.heap.size v l ∧ l.length ≤ 60 ∧ SrcT w' sb B a len cap (T + 2000) ∧ Keeps sb w w' := by
  have lsb := hS.lt
  go_enter Try.func48, Try.ntmps48
  go_upto_region 2 with fail
  obtain ⟨lb, hlb⟩ : ∃ lb, lb = w.heap.size + 1 + 1 := ⟨_, rfl⟩
  have llb : w.heap.size + 1 < lb := by omega
  obtain ⟨W0, hW0⟩ : ∃ W0, W0 = (((w.alloc (.cells #[.int .i64 h.fl, .int .i64 h.gp, .int .i64 h.ln, .int .i64 h.rf, .int .i64 h.sp, .int .i64 h.pu, .int .i64 h.br, .int .i64 h.dr, .int .i64 h.lv, .int .i64 h.dO, .int .i64 h.ld, .int .i64 h.qu] 25)).alloc (.cells #[.int .i64 0, .slice none 0 0] 28)).alloc (.cells #[.int .i64 1, .slice none 0 0] 28)) := ⟨_, rfl⟩
  have F0 : Hid (HAt W0 w.heap.size h) := by rw [hW0]; exact ((HAt.at_ w h _ _ rfl).alloc _).alloc _
  have F4 : Hid (LW W0 (w.heap.size + 1) 0 (.slice none 0 0)) := by rw [hW0]; exact (LW.at_ _ 0 (.slice none 0 0) _ _ (by simp)).alloc _
  have FG : Hid (LG W0 lb) := by rw [hW0, hlb]; exact ⟨1, .slice none 0 0, [], LW.at_ _ 1 (.slice none 0 0) _ _ (by simp), own_nil _ _, by simp, by omega, by omega⟩
  have FS : Hid (SrcT W0 sb B a len cap T) := by rw [hW0]; exact ((hS.alloc _).alloc _).alloc _
  have FK : Hid (Keeps sb w W0) := by rw [hW0]; exact (((Keeps.refl _ _).alloc _).alloc _).alloc _
  rw [← hW0, ← hlb]
  clear hW0 hlb hS
  go_upto_region 3 with (go_at_call 35; refine (l1Next_t sb B a len cap (T) 8 _ FS.out (by omega) (by omega) (by omega)).mono ?_; rintro e wn ⟨k0, rfl, hk0, hs, hk⟩; have F0 : Hid (HAt wn w.heap.size h) := F0.out.keeps hk (by omega); have F4 : Hid (LW wn (w.heap.size + 1) 0 (.slice none 0 0)) := F4.out.keeps hk (by omega); have FG : Hid (LG wn lb) := FG.out.keeps hk (by omega); have FK : Hid (Keeps sb w wn) := FK.out.trans hk; have FS : Hid (SrcT wn sb B a len cap (T + 1)) := hs; clear hk hs)
  go_loopw [6] (fun kk wr => ∃ k : Nat, kk = .int .i64 k ∧ k ≤ 8 ∧ HAt wr w.heap.size h ∧ LW wr (w.heap.size + 1) 0 (.slice none 0 0) ∧ LG wr lb ∧ SrcT wr sb B a len cap (T + 1 + (8 - k) * 30) ∧ Keeps sb w wr) (fun kk _ => (intOf kk).toNat)
  case atStart => exact ⟨k0, rfl, by omega, F0.out, F4.out, FG.out, FS.out.more (by omega), FK.out⟩
  case round =>
    obtain ⟨k, rfl, hk8, h0, h4, hg_, hs_, hk_⟩ := hrel
    clear F0 F4 FG FS FK
    have F0 : Hid (HAt wr w.heap.size h) := h0
    have F4 : Hid (LW wr (w.heap.size + 1) 0 (.slice none 0 0)) := h4
    have FG : Hid (LG wr lb) := hg_
    have FK : Hid (Keeps sb w wr) := hk_
    obtain ⟨U, hU⟩ : ∃ U, U = T + 1 + (8 - k) * 30 := ⟨_, rfl⟩
    rw [← hU] at hs_
    have FS : Hid (SrcT wr sb B a len cap U) := hs_
    have hUb : U ≤ T + 241 := by omega
    clear h0 h4 hg_ hs_ hk_
    rcases Nat.eq_zero_or_pos k with hk0 | hkp
    · subst hk0
      go_upto_region 18 with fail
      go_upto_if 87 with (go_at_call 34; refine (l1Chance_t sb B a len cap (U) 50 _ FS.out (by omega) (by omega) (by omega)).mono ?_; rintro e w1 ⟨ch, rfl, hs, hk⟩; have F0 : Hid (HAt w1 w.heap.size h) := F0.out.keeps hk (by omega); have F4 : Hid (LW w1 (w.heap.size + 1) 0 (.slice none 0 0)) := F4.out.keeps hk (by omega); have FG : Hid (LG w1 lb) := FG.out.keeps hk (by omega); have FK : Hid (Keeps sb w w1) := FK.out.trans hk; have FS : Hid (SrcT w1 sb B a len cap (U + 1)) := hs; clear hk hs)
      go_cut [6] (fun _ wx => HAt wx w.heap.size h ∧ LW wx (w.heap.size + 1) 0 (.slice none 0 0) ∧ LG wx lb ∧ SrcT wx sb B a len cap (U + 1 + 64) ∧ Keeps sb w wx)
      case first =>
        cases ch
        · go_wp2_with fail
          go_meet
          case rel => exact ⟨F0.out, F4.out, FG.out, FS.out.more (by omega), FK.out⟩
        · go_wp2_with fail
          go_loopw [10] (fun ii wr => ∃ i : Nat, ii = .int .i64 i ∧ i ≤ 64 ∧ HAt wr w.heap.size h ∧ LW wr (w.heap.size + 1) 0 (.slice none 0 0) ∧ LG wr lb ∧ SrcT wr sb B a len cap (U + 1 + i) ∧ Keeps sb w wr) (fun ii _ => 64 - (intOf ii).toNat)
          case atStart => exact ⟨0, rfl, by omega, F0.out, F4.out, FG.out, FS.out, FK.out⟩
          case round =>
            obtain ⟨i, rfl, hi, h0, h4, hg_, hs_, hk_⟩ := hrel
            clear F0 F4 FG FS FK
            have F0 : Hid (HAt wr w.heap.size h) := h0
            have F4 : Hid (LW wr (w.heap.size + 1) 0 (.slice none 0 0)) := h4
            have FG : Hid (LG wr lb) := hg_
            have FK : Hid (Keeps sb w wr) := hk_
            have FS : Hid (SrcT wr sb B a len cap (U + 1 + i)) := hs_
            clear h0 h4 hg_ hs_ hk_
            by_cases hlt : i < 64
            · have bi : decide ((i : Int) < 64) = true := decide_eq_true (by omega)
              obtain ⟨x0_0, x0_1, x0_2, x0_3, x0_4, x0_5, x0_6, x0_7, x0_8, x0_9, x0_10, x0_11⟩ := F0.out
              go_upto_if 98 with (first | (go_at_call 59; refine (l7Add_lg h lb _ _ _ _ _ FG.out).mono ?_; rintro e x1 ⟨⟨kk, rfl⟩, hG, hb⟩; have F0 : Hid (HAt x1 w.heap.size h) := F0.out.below hb (by omega); have F4 : Hid (LW x1 (w.heap.size + 1) 0 (.slice none 0 0)) := F4.out.below hb (by omega); have FG : Hid (LG x1 lb) := hG; have FK : Hid (Keeps sb w x1) := FK.out.belowL hb (by omega); have FS : Hid (SrcT x1 sb B a len cap (U + 1 + i)) := FS.out.belowL hb (by omega); clear hb hG; obtain ⟨x0_0, x0_1, x0_2, x0_3, x0_4, x0_5, x0_6, x0_7, x0_8, x0_9, x0_10, x0_11⟩ := F0.out) | (go_at_call 21; refine (l7Board_lg h lb _ _ _ _ FG.out).mono ?_; rintro e x2 ⟨rfl, hG, hb⟩; have F0 : Hid (HAt x2 w.heap.size h) := F0.out.below hb (by omega); have F4 : Hid (LW x2 (w.heap.size + 1) 0 (.slice none 0 0)) := F4.out.below hb (by omega); have FG : Hid (LG x2 lb) := hG; have FK : Hid (Keeps sb w x2) := FK.out.belowL hb (by omega); have FS : Hid (SrcT x2 sb B a len cap (U + 1 + i)) := FS.out.belowL hb (by omega); clear hb hG) | (go_at_call 34; refine (l1Chance_t sb B a len cap (U + 1 + i) 30 _ FS.out (by omega) (by omega) (by omega)).mono ?_; rintro e x3 ⟨c3, rfl, hs, hk⟩; have F0 : Hid (HAt x3 w.heap.size h) := F0.out.keeps hk (by omega); have F4 : Hid (LW x3 (w.heap.size + 1) 0 (.slice none 0 0)) := F4.out.keeps hk (by omega); have FG : Hid (LG x3 lb) := FG.out.keeps hk (by omega); have FK : Hid (Keeps sb w x3) := FK.out.trans hk; have FS : Hid (SrcT x3 sb B a len cap (U + 1 + i + 1)) := hs; clear hk hs))
              cases c3
              · go_wp2_with (go_at_call 60; refine (l7Alight_lg lb _ _ _ _ FG.out).mono ?_; rintro e x4 ⟨rfl, hG, hb⟩; have F0 : Hid (HAt x4 w.heap.size h) := F0.out.below hb (by omega); have F4 : Hid (LW x4 (w.heap.size + 1) 0 (.slice none 0 0)) := F4.out.below hb (by omega); have FG : Hid (LG x4 lb) := hG; have FK : Hid (Keeps sb w x4) := FK.out.belowL hb (by omega); have FS : Hid (SrcT x4 sb B a len cap (U + 1 + i + 1)) := FS.out.belowL hb (by omega); clear hb hG)
                go_roundw
                case rel => exact ⟨i + 1, by simp, by omega, F0.out, F4.out, FG.out, FS.out.more (by omega), FK.out⟩
                case measure => simp [intOf] <;> omega
              · go_wp2_with fail
                go_roundw
                case rel => exact ⟨i + 1, by simp, by omega, F0.out, F4.out, FG.out, FS.out.more (by omega), FK.out⟩
                case measure => simp [intOf] <;> omega
            · have ei : i = 64 := by omega
              subst ei
              go_wp2_with fail
              go_meet
              case rel => exact ⟨F0.out, F4.out, FG.out, FS.out, FK.out⟩
      case rest =>
        obtain ⟨h0, h4, hg_, hs_, hk_⟩ := hcut
        clear F0 F4 FG FS FK
        have F0 : Hid (HAt wc w.heap.size h) := h0
        have F4 : Hid (LW wc (w.heap.size + 1) 0 (.slice none 0 0)) := h4
        have FK : Hid (Keeps sb w wc) := hk_
        have FS : Hid (SrcT wc sb B a len cap (U + 1 + 64)) := hs_
        obtain ⟨nx, v, l, FH_⟩ := hg_
        clear h0 h4 hs_ hk_
        rcases FH_.o.cases with ⟨rfl, rfl⟩ | ⟨g, cp, rfl, hBg, hgl, -⟩
        · obtain ⟨o0, o1, o2, o3⟩ := FH_.f
          have NEW0 : (Value.slice none 0 0).ownBlock ≠ some (w.heap.size + 1) := fun e => by cases e
          clear FH_
          obtain ⟨r0, r1, r2, r3⟩ := F4.out
          go_wp2_with fail
          exact bodyPost_ret (v := .agg #[.int .i64 nx, .slice none 0 0]) (by simp [results, Try.results48, go_sem, r0, r1]) rfl ⟨_, _, [], rfl, ((own_nil _ _).other (p := ⟨w.heap.size + 1, 0, none⟩) NEW0 _).other (p := ⟨w.heap.size + 1, 1, none⟩) NEW0 _, by simp, ((FS.out.other _ _ _ (by omega) (by have := FS.out.hB; omega)).other _ _ _ (by omega) (by have := FS.out.hB; omega)).more (by omega), (FK.out.own (show w.heap.size ≤ w.heap.size + 1 by omega) _ _).own (show w.heap.size ≤ w.heap.size + 1 by omega) _ _⟩
        have FH : Hid (Lg1 wc lb nx (.slice (some ⟨g, 0, none⟩) l.length cp) l) := FH_
        clear FH_
        obtain ⟨o0, o1, o2, o3⟩ := FH.out.f
        have NEW0 : (Value.slice (some (⟨g, 0, none⟩ : Addr)) l.length cp).ownBlock ≠ some (w.heap.size + 1) := fun e => by have e2 := Option.some.inj e; simp at e2; omega
        by_cases hl0 : l.length = 0
        · obtain rfl := List.eq_nil_of_length_eq_zero hl0
          clear hl0
          obtain ⟨r0, r1, r2, r3⟩ := F4.out
          go_wp2_with fail
          exact bodyPost_ret (v := .agg #[.int .i64 nx, .slice (some ⟨g, 0, none⟩) ([] : List Pe).length cp]) (by simp [results, Try.results48, go_sem, r0, r1]) rfl ⟨_, _, [], rfl, ((FH.out.o.base (show w.heap.size ≤ lb + 1 by omega)).other (p := ⟨w.heap.size + 1, 0, none⟩) NEW0 _).other (p := ⟨w.heap.size + 1, 1, none⟩) NEW0 _, by simp, ((FS.out.other _ _ _ (by omega) (by have := FS.out.hB; omega)).other _ _ _ (by omega) (by have := FS.out.hB; omega)).more (by omega), (FK.out.own (show w.heap.size ≤ w.heap.size + 1 by omega) _ _).own (show w.heap.size ≤ w.heap.size + 1 by omega) _ _⟩
        have hlq : 0 < l.length := by omega
        have hne : ¬ l = [] := fun e => hl0 (by rw [e]; rfl)
        have hll : l.length ≤ 60 := FH.out.n
        have bz : ((l.length : Int) == 0) = false := by simp; exact hne
        clear hl0
        go_upto_region 30 with (go_at_call 35; refine (l1Next_t sb B a len cap (U + 1 + 64) (l.length : Int) _ FS.out (by omega) (by omega) (by omega)).mono ?_; rintro e w3 ⟨ix, rfl, hix, hs, hk⟩; have F0 : Hid (HAt w3 w.heap.size h) := F0.out.keeps hk (by omega); have F4 : Hid (LW w3 (w.heap.size + 1) 0 (.slice none 0 0)) := F4.out.keeps hk (by omega); have FH : Hid (Lg1 w3 lb nx (.slice (some ⟨g, 0, none⟩) l.length cp) l) := FH.out.keeps hk (by omega); have FK : Hid (Keeps sb w w3) := FK.out.trans hk; have FS : Hid (SrcT w3 sb B a len cap (U + 1 + 64 + 1)) := hs; clear hk hs; obtain ⟨o0, o1, o2, o3⟩ := FH.out.f)
        obtain ⟨p, hp⟩ : ∃ p, l[ix]? = some p := ⟨_, List.getElem?_eq_getElem (by omega)⟩
        have HPX : Hid (l[ix]? = some p) := hp
        clear hp
        go_upto_region 31 with (go_at_call 35; refine (l1Next_t sb B a len cap (U + 1 + 64 + 1) 24 _ FS.out (by omega) (by omega) (by omega)).mono ?_; rintro e w4 ⟨c, rfl, hc, hs, hk⟩; have F0 : Hid (HAt w4 w.heap.size h) := F0.out.keeps hk (by omega); have F4 : Hid (LW w4 (w.heap.size + 1) 0 (.slice none 0 0)) := F4.out.keeps hk (by omega); have FH : Hid (Lg1 w4 lb nx (.slice (some ⟨g, 0, none⟩) l.length cp) l) := FH.out.keeps hk (by omega); have FK : Hid (Keeps sb w w4) := FK.out.trans hk; have FS : Hid (SrcT w4 sb B a len cap (U + 1 + 64 + 1 + 1)) := hs; clear hk hs; obtain ⟨o0, o1, o2, o3⟩ := FH.out.f)
        have cc : c = 0 ∨ c = 1 ∨ c = 2 ∨ c = 3 ∨ c = 4 ∨ c = 5 ∨ c = 6 ∨ 7 ≤ c := by omega
        rcases cc with rfl | rfl | rfl | rfl | rfl | rfl | rfl | c7
        · go_upto_region 32 with fail
          have F0 : Hid (HAt w4.drew w.heap.size h) := F0.out.below (Below.refl _ _).drew F0.out.lt
          have F4 : Hid (LW w4.drew (w.heap.size + 1) 0 (.slice none 0 0)) := F4.out.below (Below.refl _ _).drew F4.out.lt
          have FH : Hid (Lg1 w4.drew lb nx (.slice (some ⟨g, 0, none⟩) l.length cp) l) := FH.out.drew
          have FS : Hid (SrcT w4.drew sb B a len cap (U + 1 + 64 + 1 + 1)) := FS.out.drew
          have FK : Hid (Keeps sb w w4.drew) := FK.out.of_below (Below.refl _ _).drew
          have mv := FH.out.f.c1
          have mn := FH.out.f.c0
          refine wp_region_held_drew (S := (fun w'' => w''.cell? ⟨lb, 1, none⟩ = some (.slice (some ⟨g, 0, none⟩) l.length cp) ∧ w''.cell? ⟨lb, 0, none⟩ = some (.int .i64 nx))) (by kernel_rfl) (by (try dsimp only); first | exact ⟨mv, mn⟩ | go_keep) (fun hHeld => ?_)
          obtain ⟨v_1, hw1⟩ : ∃ v_1, v_1 = w4.drew := ⟨_, rfl⟩
          have F0 : Hid (HAt v_1 w.heap.size h) := by rw [hw1]; exact F0.out
          have F4 : Hid (LW v_1 (w.heap.size + 1) 0 (.slice none 0 0)) := by rw [hw1]; exact F4.out
          have FH : Hid (Lg1 v_1 lb nx (.slice (some ⟨g, 0, none⟩) l.length cp) l) := by rw [hw1]; exact FH.out
          have FS : Hid (SrcT v_1 sb B a len cap (U + 1 + 64 + 1 + 1)) := by rw [hw1]; exact FS.out
          have FK : Hid (Keeps sb w v_1) := by rw [hw1]; exact FK.out
          rw [← hw1] at hHeld ⊢
          clear hw1
          have mv := FH.out.f.c1
          have mn := FH.out.f.c0
          refine tkz 0 rfl ?_
          refine tkz 1 rfl ?_
          refine tkz 2 rfl ?_
          refine tkz 3 rfl ?_
          refine tkz 4 rfl ?_
          refine tkz 5 rfl ?_
          refine wpAnyH_ready (rs := [6]) (by kernel_rfl) (by simp) ?_
          refine (AllReadyH.cons rfl (fun K hK => ?_) AllReadyH.nil)
          go_simp
          obtain ⟨lb6, hbb⟩ : ∃ lb6, lb6 = v_1.heap.size := ⟨_, rfl⟩
          obtain ⟨v_2, hw2⟩ : ∃ v_2, v_2 = v_1.alloc (.cells #[.int .i64 0, .int .i64 nx, .int .i64 1] 2) := ⟨_, rfl⟩
          have nlb6_0 := F0.out.lt
          rw [← hbb] at nlb6_0
          have nlb6_1 := F4.out.lt
          rw [← hbb] at nlb6_1
          have nlb6_s := FS.out.lt
          rw [← hbb] at nlb6_s
          have FL6 : Hid (LstAt v_2 lb6 [0, nx, 1]) := by rw [hw2]; exact LstAt.new v_1 [0, nx, 1] 2 lb6 hbb (by simp)
          have F0 : Hid (HAt v_2 w.heap.size h) := by rw [hw2]; exact F0.out.alloc _
          have F4 : Hid (LW v_2 (w.heap.size + 1) 0 (.slice none 0 0)) := by rw [hw2]; exact F4.out.alloc _
          have FH : Hid (Lg1 v_2 lb nx (.slice (some ⟨g, 0, none⟩) l.length cp) l) := by rw [hw2]; exact FH.out.alloc _
          have FS : Hid (SrcT v_2 sb B a len cap (U + 1 + 64 + 1 + 1)) := by rw [hw2]; exact FS.out.alloc _
          have FK : Hid (Keeps sb w v_2) := by rw [hw2]; exact FK.out.alloc _
          rw [← hw2, ← hbb]
          clear hbb hw2
          have mv := FH.out.f.c1
          have mn := FH.out.f.c0
          refine hK.out _ _ (by (try dsimp only); first | exact ⟨mv, mn⟩ | go_keep) (fun hHeld => ?_)
          clear hK K
          try simp only [Act.put, List.getElem_toArray, List.getElem_cons_succ, List.getElem_cons_zero, List.setIfInBounds_toArray, List.set_cons_zero, List.set_cons_succ]
          refine wpAnyH_ready (rs := [7]) (by kernel_rfl) (by simp) ?_
          refine (AllReadyH.cons rfl (fun K hK => ?_) AllReadyH.nil)
          go_simp
          refine (l1Pick_t sb B lb6 [0, nx, 1] (fun _ => True) (fun _ _ => trivial) a len cap _ _ FS.out (by omega) FL6.out (by simp) (by omega)).mono ?_
          rintro e v_3 ⟨pv, rfl, -, hs, hk⟩
          have F0 : Hid (HAt v_3 w.heap.size h) := F0.out.keeps hk (by omega)
          have F4 : Hid (LW v_3 (w.heap.size + 1) 0 (.slice none 0 0)) := F4.out.keeps hk (by omega)
          have FH : Hid (Lg1 v_3 lb nx (.slice (some ⟨g, 0, none⟩) l.length cp) l) := FH.out.keeps hk (by omega)
          have FS : Hid (SrcT v_3 sb B a len cap ((U + 1 + 64 + 1 + 1) + 1)) := hs
          have FK : Hid (Keeps sb w v_3) := FK.out.trans hk
          have FL6 : Hid (LstAt v_3 lb6 [0, nx, 1]) := FL6.out.keeps hk (by omega)
          clear hs hk
          have mv := FH.out.f.c1
          have mn := FH.out.f.c0
          try dsimp only
          refine hK.out _ _ (by (try dsimp only); first | exact ⟨mv, mn⟩ | go_keep) (fun hHeld => ?_)
          clear hK K
          try simp only [Act.put, List.getElem_toArray, List.getElem_cons_succ, List.getElem_cons_zero, List.setIfInBounds_toArray, List.set_cons_zero, List.set_cons_succ]
          refine tkz 8 rfl ?_
          refine tkz 9 rfl ?_
          refine wpAnyH_ready (rs := [10]) (by kernel_rfl) (by simp) ?_
          refine (AllReadyH.cons rfl (fun K hK => ?_) AllReadyH.nil)
          have u0 := (FH.out.o.ow.p7 HPX.out).c0
          have u1 := FH.out.o.ow.fz (ix * 7)
          go_simp
          obtain ⟨v_4, hw2⟩ : ∃ v_4, v_4 = v_3.setCell ⟨g, ix * 7, none⟩ (.int .i64 pv) := ⟨_, rfl⟩
          change K _ (v_3.setCell ⟨g, ix * 7, none⟩ (.int .i64 pv))
          rw [← hw2]
          clear u0 u1
          have F0 : Hid (HAt v_4 w.heap.size h) := by rw [hw2]; exact F0.out.below ((Below.refl lb _).setCell (show lb ≤ g by omega) _) (by omega)
          have F4 : Hid (LW v_4 (w.heap.size + 1) 0 (.slice none 0 0)) := by rw [hw2]; exact F4.out.below ((Below.refl lb _).setCell (show lb ≤ g by omega) _) (by omega)
          have FH : Hid (Lg1 v_4 lb nx (.slice (some ⟨g, 0, none⟩) l.length cp) (l.set ix (⟨pv, p.fr, p.tw, p.sh, p.ca, p.st, p.pl⟩ : Pe))) := by rw [hw2]; exact FH.out.setP rfl (k := 0) HPX.out (by omega) rfl (by omega)
          have FS : Hid (SrcT v_4 sb B a len cap ((U + 1 + 64 + 1 + 1) + 1)) := by rw [hw2]; exact FS.out.belowL ((Below.refl lb _).setCell (show lb ≤ g by omega) _) (by omega)
          have FK : Hid (Keeps sb w v_4) := by rw [hw2]; exact FK.out.belowL ((Below.refl lb _).setCell (show lb ≤ g by omega) _) (by omega)
          clear hw2
          have mv := FH.out.f.c1
          have mn := FH.out.f.c0
          refine hK.out _ _ (by (try dsimp only); first | exact ⟨mv, mn⟩ | go_keep) (fun hHeld => ?_)
          clear hK K
          try simp only [Act.put, List.getElem_toArray, List.getElem_cons_succ, List.getElem_cons_zero, List.setIfInBounds_toArray, List.set_cons_zero, List.set_cons_succ]
          refine wpAnyH_done (by kernel_rfl) ?_ _
          go_upto_region 45 with fail
          obtain ⟨o0, o1, o2, o3⟩ := FH.out.f
          obtain ⟨r0, r1, r2, r3⟩ := F4.out
          go_wp2_with fail
          exact bodyPost_ret (v := .agg #[.int .i64 nx, .slice (some ⟨g, 0, none⟩) l.length cp]) (by simp [results, Try.results48, go_sem, r0, r1]) rfl ⟨_, _, (l.set ix (⟨pv, p.fr, p.tw, p.sh, p.ca, p.st, p.pl⟩ : Pe)), rfl, ((FH.out.o.base (show w.heap.size ≤ lb + 1 by omega)).other (p := ⟨w.heap.size + 1, 0, none⟩) NEW0 _).other (p := ⟨w.heap.size + 1, 1, none⟩) NEW0 _, FH.out.n, ((FS.out.other _ _ _ (by omega) (by have := FS.out.hB; omega)).other _ _ _ (by omega) (by have := FS.out.hB; omega)).more (by omega), (FK.out.own (show w.heap.size ≤ w.heap.size + 1 by omega) _ _).own (show w.heap.size ≤ w.heap.size + 1 by omega) _ _⟩
        · go_upto_region 34 with fail
          have F0 : Hid (HAt w4.drew w.heap.size h) := F0.out.below (Below.refl _ _).drew F0.out.lt
          have F4 : Hid (LW w4.drew (w.heap.size + 1) 0 (.slice none 0 0)) := F4.out.below (Below.refl _ _).drew F4.out.lt
          have FH : Hid (Lg1 w4.drew lb nx (.slice (some ⟨g, 0, none⟩) l.length cp) l) := FH.out.drew
          have FS : Hid (SrcT w4.drew sb B a len cap (U + 1 + 64 + 1 + 1)) := FS.out.drew
          have FK : Hid (Keeps sb w w4.drew) := FK.out.of_below (Below.refl _ _).drew
          have mv := FH.out.f.c1
          refine wp_region_held_drew (S := (fun w'' => w''.cell? ⟨lb, 1, none⟩ = some (.slice (some ⟨g, 0, none⟩) l.length cp))) (by kernel_rfl) (by (try dsimp only); first | exact mv | go_keep) (fun hHeld => ?_)
          obtain ⟨v_5, hw1⟩ : ∃ v_5, v_5 = w4.drew := ⟨_, rfl⟩
          have F0 : Hid (HAt v_5 w.heap.size h) := by rw [hw1]; exact F0.out
          have F4 : Hid (LW v_5 (w.heap.size + 1) 0 (.slice none 0 0)) := by rw [hw1]; exact F4.out
          have FH : Hid (Lg1 v_5 lb nx (.slice (some ⟨g, 0, none⟩) l.length cp) l) := by rw [hw1]; exact FH.out
          have FS : Hid (SrcT v_5 sb B a len cap (U + 1 + 64 + 1 + 1)) := by rw [hw1]; exact FS.out
          have FK : Hid (Keeps sb w v_5) := by rw [hw1]; exact FK.out
          rw [← hw1] at hHeld ⊢
          clear hw1
          have mv := FH.out.f.c1
          refine tkz 0 rfl ?_
          refine tkz 1 rfl ?_
          refine tkz 2 rfl ?_
          refine tkz 3 rfl ?_
          refine tkz 4 rfl ?_
          refine tkz 5 rfl ?_
          refine tkz 6 rfl ?_
          refine tkz 7 rfl ?_
          refine wpAnyH_ready (rs := [8]) (by kernel_rfl) (by simp) ?_
          refine (AllReadyH.cons rfl (fun K hK => ?_) AllReadyH.nil)
          have u2 := (FH.out.o.ow.p7 HPX.out).c1
          go_simp
          refine hK.out _ _ (by (try dsimp only); first | exact mv | go_keep) (fun hHeld => ?_)
          clear hK K
          try simp only [Act.put, List.getElem_toArray, List.getElem_cons_succ, List.getElem_cons_zero, List.setIfInBounds_toArray, List.set_cons_zero, List.set_cons_succ]
          refine tkz 9 rfl ?_
          refine tkz 10 rfl ?_
          refine wpAnyH_ready (rs := [11]) (by kernel_rfl) (by simp) ?_
          refine (AllReadyH.cons rfl (fun K hK => ?_) AllReadyH.nil)
          have u0 := (FH.out.o.ow.p7 HPX.out).c2
          have u1 := FH.out.o.ow.fz (ix * 7 + 2)
          go_simp
          obtain ⟨v_6, hw2⟩ : ∃ v_6, v_6 = v_5.setCell ⟨g, ix * 7 + 2, none⟩ (.int .i64 p.fr) := ⟨_, rfl⟩
          change K _ (v_5.setCell ⟨g, ix * 7 + 2, none⟩ (.int .i64 p.fr))
          rw [← hw2]
          clear u0 u1
          have F0 : Hid (HAt v_6 w.heap.size h) := by rw [hw2]; exact F0.out.below ((Below.refl lb _).setCell (show lb ≤ g by omega) _) (by omega)
          have F4 : Hid (LW v_6 (w.heap.size + 1) 0 (.slice none 0 0)) := by rw [hw2]; exact F4.out.below ((Below.refl lb _).setCell (show lb ≤ g by omega) _) (by omega)
          have FH : Hid (Lg1 v_6 lb nx (.slice (some ⟨g, 0, none⟩) l.length cp) (l.set ix (⟨p.id, p.fr, p.fr, p.sh, p.ca, p.st, p.pl⟩ : Pe))) := by rw [hw2]; exact FH.out.setP rfl (k := 2) HPX.out (by omega) rfl (by omega)
          have FS : Hid (SrcT v_6 sb B a len cap (U + 1 + 64 + 1 + 1)) := by rw [hw2]; exact FS.out.belowL ((Below.refl lb _).setCell (show lb ≤ g by omega) _) (by omega)
          have FK : Hid (Keeps sb w v_6) := by rw [hw2]; exact FK.out.belowL ((Below.refl lb _).setCell (show lb ≤ g by omega) _) (by omega)
          clear hw2
          have mv := FH.out.f.c1
          refine hK.out _ _ (by (try dsimp only); first | exact mv | go_keep) (fun hHeld => ?_)
          clear hK K
          try simp only [Act.put, List.getElem_toArray, List.getElem_cons_succ, List.getElem_cons_zero, List.setIfInBounds_toArray, List.set_cons_zero, List.set_cons_succ]
          refine wpAnyH_done (by kernel_rfl) ?_ _
          go_upto_region 45 with fail
          obtain ⟨o0, o1, o2, o3⟩ := FH.out.f
          obtain ⟨r0, r1, r2, r3⟩ := F4.out
          go_wp2_with fail
          exact bodyPost_ret (v := .agg #[.int .i64 nx, .slice (some ⟨g, 0, none⟩) l.length cp]) (by simp [results, Try.results48, go_sem, r0, r1]) rfl ⟨_, _, (l.set ix (⟨p.id, p.fr, p.fr, p.sh, p.ca, p.st, p.pl⟩ : Pe)), rfl, ((FH.out.o.base (show w.heap.size ≤ lb + 1 by omega)).other (p := ⟨w.heap.size + 1, 0, none⟩) NEW0 _).other (p := ⟨w.heap.size + 1, 1, none⟩) NEW0 _, FH.out.n, ((FS.out.other _ _ _ (by omega) (by have := FS.out.hB; omega)).other _ _ _ (by omega) (by have := FS.out.hB; omega)).more (by omega), (FK.out.own (show w.heap.size ≤ w.heap.size + 1 by omega) _ _).own (show w.heap.size ≤ w.heap.size + 1 by omega) _ _⟩
        · go_upto_region 36 with fail
          have F0 : Hid (HAt w4.drew w.heap.size h) := F0.out.below (Below.refl _ _).drew F0.out.lt
          have F4 : Hid (LW w4.drew (w.heap.size + 1) 0 (.slice none 0 0)) := F4.out.below (Below.refl _ _).drew F4.out.lt
          have FH : Hid (Lg1 w4.drew lb nx (.slice (some ⟨g, 0, none⟩) l.length cp) l) := FH.out.drew
          have FS : Hid (SrcT w4.drew sb B a len cap (U + 1 + 64 + 1 + 1)) := FS.out.drew
          have FK : Hid (Keeps sb w w4.drew) := FK.out.of_below (Below.refl _ _).drew
          have mv := FH.out.f.c1
          refine wp_region_held_drew (S := (fun w'' => w''.cell? ⟨lb, 1, none⟩ = some (.slice (some ⟨g, 0, none⟩) l.length cp))) (by kernel_rfl) (by (try dsimp only); first | exact mv | go_keep) (fun hHeld => ?_)
          obtain ⟨v_7, hw1⟩ : ∃ v_7, v_7 = w4.drew := ⟨_, rfl⟩
          have F0 : Hid (HAt v_7 w.heap.size h) := by rw [hw1]; exact F0.out
          have F4 : Hid (LW v_7 (w.heap.size + 1) 0 (.slice none 0 0)) := by rw [hw1]; exact F4.out
          have FH : Hid (Lg1 v_7 lb nx (.slice (some ⟨g, 0, none⟩) l.length cp) l) := by rw [hw1]; exact FH.out
          have FS : Hid (SrcT v_7 sb B a len cap (U + 1 + 64 + 1 + 1)) := by rw [hw1]; exact FS.out
          have FK : Hid (Keeps sb w v_7) := by rw [hw1]; exact FK.out
          rw [← hw1] at hHeld ⊢
          clear hw1
          have mv := FH.out.f.c1
          refine tkz 0 rfl ?_
          refine tkz 1 rfl ?_
          refine tkz 2 rfl ?_
          refine tkz 3 rfl ?_
          refine wpAnyH_ready (rs := [4]) (by kernel_rfl) (by simp) ?_
          refine (AllReadyH.cons rfl (fun K hK => ?_) AllReadyH.nil)
          go_simp
          obtain ⟨lb4, hbb⟩ : ∃ lb4, lb4 = v_7.heap.size := ⟨_, rfl⟩
          obtain ⟨v_8, hw2⟩ : ∃ v_8, v_8 = v_7.alloc (.cells #[.int .i64 (-1), .int .i64 2, .int .i64 3] 2) := ⟨_, rfl⟩
          have nlb4_0 := F0.out.lt
          rw [← hbb] at nlb4_0
          have nlb4_1 := F4.out.lt
          rw [← hbb] at nlb4_1
          have nlb4_s := FS.out.lt
          rw [← hbb] at nlb4_s
          have FL4 : Hid (LstAt v_8 lb4 [(-1), 2, 3]) := by rw [hw2]; exact LstAt.new v_7 [(-1), 2, 3] 2 lb4 hbb (by simp)
          have F0 : Hid (HAt v_8 w.heap.size h) := by rw [hw2]; exact F0.out.alloc _
          have F4 : Hid (LW v_8 (w.heap.size + 1) 0 (.slice none 0 0)) := by rw [hw2]; exact F4.out.alloc _
          have FH : Hid (Lg1 v_8 lb nx (.slice (some ⟨g, 0, none⟩) l.length cp) l) := by rw [hw2]; exact FH.out.alloc _
          have FS : Hid (SrcT v_8 sb B a len cap (U + 1 + 64 + 1 + 1)) := by rw [hw2]; exact FS.out.alloc _
          have FK : Hid (Keeps sb w v_8) := by rw [hw2]; exact FK.out.alloc _
          rw [← hw2, ← hbb]
          clear hbb hw2
          have mv := FH.out.f.c1
          refine hK.out _ _ (by (try dsimp only); first | exact mv | go_keep) (fun hHeld => ?_)
          clear hK K
          try simp only [Act.put, List.getElem_toArray, List.getElem_cons_succ, List.getElem_cons_zero, List.setIfInBounds_toArray, List.set_cons_zero, List.set_cons_succ]
          refine wpAnyH_ready (rs := [5]) (by kernel_rfl) (by simp) ?_
          refine (AllReadyH.cons rfl (fun K hK => ?_) AllReadyH.nil)
          go_simp
          refine (l1Pick_t sb B lb4 [(-1), 2, 3] (fun _ => True) (fun _ _ => trivial) a len cap _ _ FS.out (by omega) FL4.out (by simp) (by omega)).mono ?_
          rintro e v_9 ⟨pv, rfl, -, hs, hk⟩
          have F0 : Hid (HAt v_9 w.heap.size h) := F0.out.keeps hk (by omega)
          have F4 : Hid (LW v_9 (w.heap.size + 1) 0 (.slice none 0 0)) := F4.out.keeps hk (by omega)
          have FH : Hid (Lg1 v_9 lb nx (.slice (some ⟨g, 0, none⟩) l.length cp) l) := FH.out.keeps hk (by omega)
          have FS : Hid (SrcT v_9 sb B a len cap ((U + 1 + 64 + 1 + 1) + 1)) := hs
          have FK : Hid (Keeps sb w v_9) := FK.out.trans hk
          have FL4 : Hid (LstAt v_9 lb4 [(-1), 2, 3]) := FL4.out.keeps hk (by omega)
          clear hs hk
          have mv := FH.out.f.c1
          try dsimp only
          refine hK.out _ _ (by (try dsimp only); first | exact mv | go_keep) (fun hHeld => ?_)
          clear hK K
          try simp only [Act.put, List.getElem_toArray, List.getElem_cons_succ, List.getElem_cons_zero, List.setIfInBounds_toArray, List.set_cons_zero, List.set_cons_succ]
          refine tkz 6 rfl ?_
          refine tkz 7 rfl ?_
          refine wpAnyH_ready (rs := [8]) (by kernel_rfl) (by simp) ?_
          refine (AllReadyH.cons rfl (fun K hK => ?_) AllReadyH.nil)
          have u0 := (FH.out.o.ow.p7 HPX.out).c3
          have u1 := FH.out.o.ow.fz (ix * 7 + 3)
          go_simp
          obtain ⟨v_10, hw2⟩ : ∃ v_10, v_10 = v_9.setCell ⟨g, ix * 7 + 3, none⟩ (.int .i64 pv) := ⟨_, rfl⟩
          change K _ (v_9.setCell ⟨g, ix * 7 + 3, none⟩ (.int .i64 pv))
          rw [← hw2]
          clear u0 u1
          have F0 : Hid (HAt v_10 w.heap.size h) := by rw [hw2]; exact F0.out.below ((Below.refl lb _).setCell (show lb ≤ g by omega) _) (by omega)
          have F4 : Hid (LW v_10 (w.heap.size + 1) 0 (.slice none 0 0)) := by rw [hw2]; exact F4.out.below ((Below.refl lb _).setCell (show lb ≤ g by omega) _) (by omega)
          have FH : Hid (Lg1 v_10 lb nx (.slice (some ⟨g, 0, none⟩) l.length cp) (l.set ix (⟨p.id, p.fr, p.tw, pv, p.ca, p.st, p.pl⟩ : Pe))) := by rw [hw2]; exact FH.out.setP rfl (k := 3) HPX.out (by omega) rfl (by omega)
          have FS : Hid (SrcT v_10 sb B a len cap ((U + 1 + 64 + 1 + 1) + 1)) := by rw [hw2]; exact FS.out.belowL ((Below.refl lb _).setCell (show lb ≤ g by omega) _) (by omega)
          have FK : Hid (Keeps sb w v_10) := by rw [hw2]; exact FK.out.belowL ((Below.refl lb _).setCell (show lb ≤ g by omega) _) (by omega)
          clear hw2
          have mv := FH.out.f.c1
          refine hK.out _ _ (by (try dsimp only); first | exact mv | go_keep) (fun hHeld => ?_)
          clear hK K
          try simp only [Act.put, List.getElem_toArray, List.getElem_cons_succ, List.getElem_cons_zero, List.setIfInBounds_toArray, List.set_cons_zero, List.set_cons_succ]
          refine wpAnyH_done (by kernel_rfl) ?_ _
          go_upto_region 45 with fail
          obtain ⟨o0, o1, o2, o3⟩ := FH.out.f
          obtain ⟨r0, r1, r2, r3⟩ := F4.out
          go_wp2_with fail
          exact bodyPost_ret (v := .agg #[.int .i64 nx, .slice (some ⟨g, 0, none⟩) l.length cp]) (by simp [results, Try.results48, go_sem, r0, r1]) rfl ⟨_, _, (l.set ix (⟨p.id, p.fr, p.tw, pv, p.ca, p.st, p.pl⟩ : Pe)), rfl, ((FH.out.o.base (show w.heap.size ≤ lb + 1 by omega)).other (p := ⟨w.heap.size + 1, 0, none⟩) NEW0 _).other (p := ⟨w.heap.size + 1, 1, none⟩) NEW0 _, FH.out.n, ((FS.out.other _ _ _ (by omega) (by have := FS.out.hB; omega)).other _ _ _ (by omega) (by have := FS.out.hB; omega)).more (by omega), (FK.out.own (show w.heap.size ≤ w.heap.size + 1 by omega) _ _).own (show w.heap.size ≤ w.heap.size + 1 by omega) _ _⟩
        · go_upto_region 38 with fail
          have F0 : Hid (HAt w4.drew w.heap.size h) := F0.out.below (Below.refl _ _).drew F0.out.lt
          have F4 : Hid (LW w4.drew (w.heap.size + 1) 0 (.slice none 0 0)) := F4.out.below (Below.refl _ _).drew F4.out.lt
          have FH : Hid (Lg1 w4.drew lb nx (.slice (some ⟨g, 0, none⟩) l.length cp) l) := FH.out.drew
          have FS : Hid (SrcT w4.drew sb B a len cap (U + 1 + 64 + 1 + 1)) := FS.out.drew
          have FK : Hid (Keeps sb w w4.drew) := FK.out.of_below (Below.refl _ _).drew
          have mv := FH.out.f.c1
          refine wp_region_held_drew (S := (fun w'' => w''.cell? ⟨lb, 1, none⟩ = some (.slice (some ⟨g, 0, none⟩) l.length cp))) (by kernel_rfl) (by (try dsimp only); first | exact mv | go_keep) (fun hHeld => ?_)
          obtain ⟨v_11, hw1⟩ : ∃ v_11, v_11 = w4.drew := ⟨_, rfl⟩
          have F0 : Hid (HAt v_11 w.heap.size h) := by rw [hw1]; exact F0.out
          have F4 : Hid (LW v_11 (w.heap.size + 1) 0 (.slice none 0 0)) := by rw [hw1]; exact F4.out
          have FH : Hid (Lg1 v_11 lb nx (.slice (some ⟨g, 0, none⟩) l.length cp) l) := by rw [hw1]; exact FH.out
          have FS : Hid (SrcT v_11 sb B a len cap (U + 1 + 64 + 1 + 1)) := by rw [hw1]; exact FS.out
          have FK : Hid (Keeps sb w v_11) := by rw [hw1]; exact FK.out
          rw [← hw1] at hHeld ⊢
          clear hw1
          have mv := FH.out.f.c1
          refine tkz 0 rfl ?_
          refine tkz 1 rfl ?_
          refine tkz 2 rfl ?_
          refine tkz 3 rfl ?_
          refine wpAnyH_ready (rs := [4]) (by kernel_rfl) (by simp) ?_
          refine (AllReadyH.cons rfl (fun K hK => ?_) AllReadyH.nil)
          go_simp
          obtain ⟨lb4, hbb⟩ : ∃ lb4, lb4 = v_11.heap.size := ⟨_, rfl⟩
          obtain ⟨v_12, hw2⟩ : ∃ v_12, v_12 = v_11.alloc (.cells #[.int .i64 (-1), .int .i64 2] 2) := ⟨_, rfl⟩
          have nlb4_0 := F0.out.lt
          rw [← hbb] at nlb4_0
          have nlb4_1 := F4.out.lt
          rw [← hbb] at nlb4_1
          have nlb4_s := FS.out.lt
          rw [← hbb] at nlb4_s
          have FL4 : Hid (LstAt v_12 lb4 [(-1), 2]) := by rw [hw2]; exact LstAt.new v_11 [(-1), 2] 2 lb4 hbb (by simp)
          have F0 : Hid (HAt v_12 w.heap.size h) := by rw [hw2]; exact F0.out.alloc _
          have F4 : Hid (LW v_12 (w.heap.size + 1) 0 (.slice none 0 0)) := by rw [hw2]; exact F4.out.alloc _
          have FH : Hid (Lg1 v_12 lb nx (.slice (some ⟨g, 0, none⟩) l.length cp) l) := by rw [hw2]; exact FH.out.alloc _
          have FS : Hid (SrcT v_12 sb B a len cap (U + 1 + 64 + 1 + 1)) := by rw [hw2]; exact FS.out.alloc _
          have FK : Hid (Keeps sb w v_12) := by rw [hw2]; exact FK.out.alloc _
          rw [← hw2, ← hbb]
          clear hbb hw2
          have mv := FH.out.f.c1
          refine hK.out _ _ (by (try dsimp only); first | exact mv | go_keep) (fun hHeld => ?_)
          clear hK K
          try simp only [Act.put, List.getElem_toArray, List.getElem_cons_succ, List.getElem_cons_zero, List.setIfInBounds_toArray, List.set_cons_zero, List.set_cons_succ]
          refine wpAnyH_ready (rs := [5]) (by kernel_rfl) (by simp) ?_
          refine (AllReadyH.cons rfl (fun K hK => ?_) AllReadyH.nil)
          go_simp
          refine (l1Pick_t sb B lb4 [(-1), 2] (fun _ => True) (fun _ _ => trivial) a len cap _ _ FS.out (by omega) FL4.out (by simp) (by omega)).mono ?_
          rintro e v_13 ⟨pv, rfl, -, hs, hk⟩
          have F0 : Hid (HAt v_13 w.heap.size h) := F0.out.keeps hk (by omega)
          have F4 : Hid (LW v_13 (w.heap.size + 1) 0 (.slice none 0 0)) := F4.out.keeps hk (by omega)
          have FH : Hid (Lg1 v_13 lb nx (.slice (some ⟨g, 0, none⟩) l.length cp) l) := FH.out.keeps hk (by omega)
          have FS : Hid (SrcT v_13 sb B a len cap ((U + 1 + 64 + 1 + 1) + 1)) := hs
          have FK : Hid (Keeps sb w v_13) := FK.out.trans hk
          have FL4 : Hid (LstAt v_13 lb4 [(-1), 2]) := FL4.out.keeps hk (by omega)
          clear hs hk
          have mv := FH.out.f.c1
          try dsimp only
          refine hK.out _ _ (by (try dsimp only); first | exact mv | go_keep) (fun hHeld => ?_)
          clear hK K
          try simp only [Act.put, List.getElem_toArray, List.getElem_cons_succ, List.getElem_cons_zero, List.setIfInBounds_toArray, List.set_cons_zero, List.set_cons_succ]
          refine tkz 6 rfl ?_
          refine tkz 7 rfl ?_
          refine wpAnyH_ready (rs := [8]) (by kernel_rfl) (by simp) ?_
          refine (AllReadyH.cons rfl (fun K hK => ?_) AllReadyH.nil)
          have u0 := (FH.out.o.ow.p7 HPX.out).c4
          have u1 := FH.out.o.ow.fz (ix * 7 + 4)
          go_simp
          obtain ⟨v_14, hw2⟩ : ∃ v_14, v_14 = v_13.setCell ⟨g, ix * 7 + 4, none⟩ (.int .i64 pv) := ⟨_, rfl⟩
          change K _ (v_13.setCell ⟨g, ix * 7 + 4, none⟩ (.int .i64 pv))
          rw [← hw2]
          clear u0 u1
          have F0 : Hid (HAt v_14 w.heap.size h) := by rw [hw2]; exact F0.out.below ((Below.refl lb _).setCell (show lb ≤ g by omega) _) (by omega)
          have F4 : Hid (LW v_14 (w.heap.size + 1) 0 (.slice none 0 0)) := by rw [hw2]; exact F4.out.below ((Below.refl lb _).setCell (show lb ≤ g by omega) _) (by omega)
          have FH : Hid (Lg1 v_14 lb nx (.slice (some ⟨g, 0, none⟩) l.length cp) (l.set ix (⟨p.id, p.fr, p.tw, p.sh, pv, p.st, p.pl⟩ : Pe))) := by rw [hw2]; exact FH.out.setP rfl (k := 4) HPX.out (by omega) rfl (by omega)
          have FS : Hid (SrcT v_14 sb B a len cap ((U + 1 + 64 + 1 + 1) + 1)) := by rw [hw2]; exact FS.out.belowL ((Below.refl lb _).setCell (show lb ≤ g by omega) _) (by omega)
          have FK : Hid (Keeps sb w v_14) := by rw [hw2]; exact FK.out.belowL ((Below.refl lb _).setCell (show lb ≤ g by omega) _) (by omega)
          clear hw2
          have mv := FH.out.f.c1
          refine hK.out _ _ (by (try dsimp only); first | exact mv | go_keep) (fun hHeld => ?_)
          clear hK K
          try simp only [Act.put, List.getElem_toArray, List.getElem_cons_succ, List.getElem_cons_zero, List.setIfInBounds_toArray, List.set_cons_zero, List.set_cons_succ]
          refine wpAnyH_done (by kernel_rfl) ?_ _
          go_upto_region 45 with fail
          obtain ⟨o0, o1, o2, o3⟩ := FH.out.f
          obtain ⟨r0, r1, r2, r3⟩ := F4.out
          go_wp2_with fail
          exact bodyPost_ret (v := .agg #[.int .i64 nx, .slice (some ⟨g, 0, none⟩) l.length cp]) (by simp [results, Try.results48, go_sem, r0, r1]) rfl ⟨_, _, (l.set ix (⟨p.id, p.fr, p.tw, p.sh, pv, p.st, p.pl⟩ : Pe)), rfl, ((FH.out.o.base (show w.heap.size ≤ lb + 1 by omega)).other (p := ⟨w.heap.size + 1, 0, none⟩) NEW0 _).other (p := ⟨w.heap.size + 1, 1, none⟩) NEW0 _, FH.out.n, ((FS.out.other _ _ _ (by omega) (by have := FS.out.hB; omega)).other _ _ _ (by omega) (by have := FS.out.hB; omega)).more (by omega), (FK.out.own (show w.heap.size ≤ w.heap.size + 1 by omega) _ _).own (show w.heap.size ≤ w.heap.size + 1 by omega) _ _⟩
        · go_upto_region 40 with fail
          have F0 : Hid (HAt w4.drew w.heap.size h) := F0.out.below (Below.refl _ _).drew F0.out.lt
          have F4 : Hid (LW w4.drew (w.heap.size + 1) 0 (.slice none 0 0)) := F4.out.below (Below.refl _ _).drew F4.out.lt
          have FH : Hid (Lg1 w4.drew lb nx (.slice (some ⟨g, 0, none⟩) l.length cp) l) := FH.out.drew
          have FS : Hid (SrcT w4.drew sb B a len cap (U + 1 + 64 + 1 + 1)) := FS.out.drew
          have FK : Hid (Keeps sb w w4.drew) := FK.out.of_below (Below.refl _ _).drew
          have mv := FH.out.f.c1
          refine wp_region_held_drew (S := (fun w'' => w''.cell? ⟨lb, 1, none⟩ = some (.slice (some ⟨g, 0, none⟩) l.length cp))) (by kernel_rfl) (by (try dsimp only); first | exact mv | go_keep) (fun hHeld => ?_)
          obtain ⟨v_15, hw1⟩ : ∃ v_15, v_15 = w4.drew := ⟨_, rfl⟩
          have F0 : Hid (HAt v_15 w.heap.size h) := by rw [hw1]; exact F0.out
          have F4 : Hid (LW v_15 (w.heap.size + 1) 0 (.slice none 0 0)) := by rw [hw1]; exact F4.out
          have FH : Hid (Lg1 v_15 lb nx (.slice (some ⟨g, 0, none⟩) l.length cp) l) := by rw [hw1]; exact FH.out
          have FS : Hid (SrcT v_15 sb B a len cap (U + 1 + 64 + 1 + 1)) := by rw [hw1]; exact FS.out
          have FK : Hid (Keeps sb w v_15) := by rw [hw1]; exact FK.out
          rw [← hw1] at hHeld ⊢
          clear hw1
          have mv := FH.out.f.c1
          refine tkz 0 rfl ?_
          refine tkz 1 rfl ?_
          refine tkz 2 rfl ?_
          refine tkz 3 rfl ?_
          refine wpAnyH_ready (rs := [4]) (by kernel_rfl) (by simp) ?_
          refine (AllReadyH.cons rfl (fun K hK => ?_) AllReadyH.nil)
          go_simp
          obtain ⟨lb4, hbb⟩ : ∃ lb4, lb4 = v_15.heap.size := ⟨_, rfl⟩
          obtain ⟨v_16, hw2⟩ : ∃ v_16, v_16 = v_15.alloc (.cells #[.int .i64 (-1), .int .i64 5, .int .i64 2, .int .i64 1] 2) := ⟨_, rfl⟩
          have nlb4_0 := F0.out.lt
          rw [← hbb] at nlb4_0
          have nlb4_1 := F4.out.lt
          rw [← hbb] at nlb4_1
          have nlb4_s := FS.out.lt
          rw [← hbb] at nlb4_s
          have FL4 : Hid (LstAt v_16 lb4 [(-1), 5, 2, 1]) := by rw [hw2]; exact LstAt.new v_15 [(-1), 5, 2, 1] 2 lb4 hbb (by simp)
          have F0 : Hid (HAt v_16 w.heap.size h) := by rw [hw2]; exact F0.out.alloc _
          have F4 : Hid (LW v_16 (w.heap.size + 1) 0 (.slice none 0 0)) := by rw [hw2]; exact F4.out.alloc _
          have FH : Hid (Lg1 v_16 lb nx (.slice (some ⟨g, 0, none⟩) l.length cp) l) := by rw [hw2]; exact FH.out.alloc _
          have FS : Hid (SrcT v_16 sb B a len cap (U + 1 + 64 + 1 + 1)) := by rw [hw2]; exact FS.out.alloc _
          have FK : Hid (Keeps sb w v_16) := by rw [hw2]; exact FK.out.alloc _
          rw [← hw2, ← hbb]
          clear hbb hw2
          have mv := FH.out.f.c1
          refine hK.out _ _ (by (try dsimp only); first | exact mv | go_keep) (fun hHeld => ?_)
          clear hK K
          try simp only [Act.put, List.getElem_toArray, List.getElem_cons_succ, List.getElem_cons_zero, List.setIfInBounds_toArray, List.set_cons_zero, List.set_cons_succ]
          refine wpAnyH_ready (rs := [5]) (by kernel_rfl) (by simp) ?_
          refine (AllReadyH.cons rfl (fun K hK => ?_) AllReadyH.nil)
          go_simp
          refine (l1Pick_t sb B lb4 [(-1), 5, 2, 1] (fun _ => True) (fun _ _ => trivial) a len cap _ _ FS.out (by omega) FL4.out (by simp) (by omega)).mono ?_
          rintro e v_17 ⟨pv, rfl, -, hs, hk⟩
          have F0 : Hid (HAt v_17 w.heap.size h) := F0.out.keeps hk (by omega)
          have F4 : Hid (LW v_17 (w.heap.size + 1) 0 (.slice none 0 0)) := F4.out.keeps hk (by omega)
          have FH : Hid (Lg1 v_17 lb nx (.slice (some ⟨g, 0, none⟩) l.length cp) l) := FH.out.keeps hk (by omega)
          have FS : Hid (SrcT v_17 sb B a len cap ((U + 1 + 64 + 1 + 1) + 1)) := hs
          have FK : Hid (Keeps sb w v_17) := FK.out.trans hk
          have FL4 : Hid (LstAt v_17 lb4 [(-1), 5, 2, 1]) := FL4.out.keeps hk (by omega)
          clear hs hk
          have mv := FH.out.f.c1
          try dsimp only
          refine hK.out _ _ (by (try dsimp only); first | exact mv | go_keep) (fun hHeld => ?_)
          clear hK K
          try simp only [Act.put, List.getElem_toArray, List.getElem_cons_succ, List.getElem_cons_zero, List.setIfInBounds_toArray, List.set_cons_zero, List.set_cons_succ]
          refine tkz 6 rfl ?_
          refine tkz 7 rfl ?_
          refine wpAnyH_ready (rs := [8]) (by kernel_rfl) (by simp) ?_
          refine (AllReadyH.cons rfl (fun K hK => ?_) AllReadyH.nil)
          have u0 := (FH.out.o.ow.p7 HPX.out).c5
          have u1 := FH.out.o.ow.fz (ix * 7 + 5)
          go_simp
          obtain ⟨v_18, hw2⟩ : ∃ v_18, v_18 = v_17.setCell ⟨g, ix * 7 + 5, none⟩ (.int .i64 pv) := ⟨_, rfl⟩
          change K _ (v_17.setCell ⟨g, ix * 7 + 5, none⟩ (.int .i64 pv))
          rw [← hw2]
          clear u0 u1
          have F0 : Hid (HAt v_18 w.heap.size h) := by rw [hw2]; exact F0.out.below ((Below.refl lb _).setCell (show lb ≤ g by omega) _) (by omega)
          have F4 : Hid (LW v_18 (w.heap.size + 1) 0 (.slice none 0 0)) := by rw [hw2]; exact F4.out.below ((Below.refl lb _).setCell (show lb ≤ g by omega) _) (by omega)
          have FH : Hid (Lg1 v_18 lb nx (.slice (some ⟨g, 0, none⟩) l.length cp) (l.set ix (⟨p.id, p.fr, p.tw, p.sh, p.ca, pv, p.pl⟩ : Pe))) := by rw [hw2]; exact FH.out.setP rfl (k := 5) HPX.out (by omega) rfl (by omega)
          have FS : Hid (SrcT v_18 sb B a len cap ((U + 1 + 64 + 1 + 1) + 1)) := by rw [hw2]; exact FS.out.belowL ((Below.refl lb _).setCell (show lb ≤ g by omega) _) (by omega)
          have FK : Hid (Keeps sb w v_18) := by rw [hw2]; exact FK.out.belowL ((Below.refl lb _).setCell (show lb ≤ g by omega) _) (by omega)
          clear hw2
          have mv := FH.out.f.c1
          refine hK.out _ _ (by (try dsimp only); first | exact mv | go_keep) (fun hHeld => ?_)
          clear hK K
          try simp only [Act.put, List.getElem_toArray, List.getElem_cons_succ, List.getElem_cons_zero, List.setIfInBounds_toArray, List.set_cons_zero, List.set_cons_succ]
          refine wpAnyH_done (by kernel_rfl) ?_ _
          go_upto_region 45 with fail
          obtain ⟨o0, o1, o2, o3⟩ := FH.out.f
          obtain ⟨r0, r1, r2, r3⟩ := F4.out
          go_wp2_with fail
          exact bodyPost_ret (v := .agg #[.int .i64 nx, .slice (some ⟨g, 0, none⟩) l.length cp]) (by simp [results, Try.results48, go_sem, r0, r1]) rfl ⟨_, _, (l.set ix (⟨p.id, p.fr, p.tw, p.sh, p.ca, pv, p.pl⟩ : Pe)), rfl, ((FH.out.o.base (show w.heap.size ≤ lb + 1 by omega)).other (p := ⟨w.heap.size + 1, 0, none⟩) NEW0 _).other (p := ⟨w.heap.size + 1, 1, none⟩) NEW0 _, FH.out.n, ((FS.out.other _ _ _ (by omega) (by have := FS.out.hB; omega)).other _ _ _ (by omega) (by have := FS.out.hB; omega)).more (by omega), (FK.out.own (show w.heap.size ≤ w.heap.size + 1 by omega) _ _).own (show w.heap.size ≤ w.heap.size + 1 by omega) _ _⟩
        · go_upto_region 42 with fail
          have F0 : Hid (HAt w4.drew w.heap.size h) := F0.out.below (Below.refl _ _).drew F0.out.lt
          have F4 : Hid (LW w4.drew (w.heap.size + 1) 0 (.slice none 0 0)) := F4.out.below (Below.refl _ _).drew F4.out.lt
          have FH : Hid (Lg1 w4.drew lb nx (.slice (some ⟨g, 0, none⟩) l.length cp) l) := FH.out.drew
          have FS : Hid (SrcT w4.drew sb B a len cap (U + 1 + 64 + 1 + 1)) := FS.out.drew
          have FK : Hid (Keeps sb w w4.drew) := FK.out.of_below (Below.refl _ _).drew
          have mv := FH.out.f.c1
          have mh := F0.out.c0
          refine wp_region_held_drew (S := (fun w'' => w''.cell? ⟨lb, 1, none⟩ = some (.slice (some ⟨g, 0, none⟩) l.length cp) ∧ w''.cell? ⟨w.heap.size, 0, none⟩ = some (.int .i64 h.fl))) (by kernel_rfl) (by (try dsimp only); first | exact ⟨mv, mh⟩ | go_keep) (fun hHeld => ?_)
          obtain ⟨v_19, hw1⟩ : ∃ v_19, v_19 = w4.drew := ⟨_, rfl⟩
          have F0 : Hid (HAt v_19 w.heap.size h) := by rw [hw1]; exact F0.out
          have F4 : Hid (LW v_19 (w.heap.size + 1) 0 (.slice none 0 0)) := by rw [hw1]; exact F4.out
          have FH : Hid (Lg1 v_19 lb nx (.slice (some ⟨g, 0, none⟩) l.length cp) l) := by rw [hw1]; exact FH.out
          have FS : Hid (SrcT v_19 sb B a len cap (U + 1 + 64 + 1 + 1)) := by rw [hw1]; exact FS.out
          have FK : Hid (Keeps sb w v_19) := by rw [hw1]; exact FK.out
          rw [← hw1] at hHeld ⊢
          clear hw1
          have mv := FH.out.f.c1
          have mh := F0.out.c0
          refine tkz 0 rfl ?_
          refine tkz 1 rfl ?_
          refine tkz 2 rfl ?_
          refine tkz 3 rfl ?_
          refine tkz 4 rfl ?_
          refine tkz 5 rfl ?_
          refine wpAnyH_ready (rs := [6]) (by kernel_rfl) (by simp) ?_
          refine (AllReadyH.cons rfl (fun K hK => ?_) AllReadyH.nil)
          go_simp
          obtain ⟨lb6, hbb⟩ : ∃ lb6, lb6 = v_19.heap.size := ⟨_, rfl⟩
          obtain ⟨v_20, hw2⟩ : ∃ v_20, v_20 = v_19.alloc (.cells #[.int .i64 (-1), .int .i64 h.fl, .int .i64 1] 2) := ⟨_, rfl⟩
          have nlb6_0 := F0.out.lt
          rw [← hbb] at nlb6_0
          have nlb6_1 := F4.out.lt
          rw [← hbb] at nlb6_1
          have nlb6_s := FS.out.lt
          rw [← hbb] at nlb6_s
          have FL6 : Hid (LstAt v_20 lb6 [(-1), h.fl, 1]) := by rw [hw2]; exact LstAt.new v_19 [(-1), h.fl, 1] 2 lb6 hbb (by simp)
          have F0 : Hid (HAt v_20 w.heap.size h) := by rw [hw2]; exact F0.out.alloc _
          have F4 : Hid (LW v_20 (w.heap.size + 1) 0 (.slice none 0 0)) := by rw [hw2]; exact F4.out.alloc _
          have FH : Hid (Lg1 v_20 lb nx (.slice (some ⟨g, 0, none⟩) l.length cp) l) := by rw [hw2]; exact FH.out.alloc _
          have FS : Hid (SrcT v_20 sb B a len cap (U + 1 + 64 + 1 + 1)) := by rw [hw2]; exact FS.out.alloc _
          have FK : Hid (Keeps sb w v_20) := by rw [hw2]; exact FK.out.alloc _
          rw [← hw2, ← hbb]
          clear hbb hw2
          have mv := FH.out.f.c1
          have mh := F0.out.c0
          refine hK.out _ _ (by (try dsimp only); first | exact ⟨mv, mh⟩ | go_keep) (fun hHeld => ?_)
          clear hK K
          try simp only [Act.put, List.getElem_toArray, List.getElem_cons_succ, List.getElem_cons_zero, List.setIfInBounds_toArray, List.set_cons_zero, List.set_cons_succ]
          refine wpAnyH_ready (rs := [7]) (by kernel_rfl) (by simp) ?_
          refine (AllReadyH.cons rfl (fun K hK => ?_) AllReadyH.nil)
          go_simp
          refine (l1Pick_t sb B lb6 [(-1), h.fl, 1] (fun _ => True) (fun _ _ => trivial) a len cap _ _ FS.out (by omega) FL6.out (by simp) (by omega)).mono ?_
          rintro e v_21 ⟨pv, rfl, -, hs, hk⟩
          have F0 : Hid (HAt v_21 w.heap.size h) := F0.out.keeps hk (by omega)
          have F4 : Hid (LW v_21 (w.heap.size + 1) 0 (.slice none 0 0)) := F4.out.keeps hk (by omega)
          have FH : Hid (Lg1 v_21 lb nx (.slice (some ⟨g, 0, none⟩) l.length cp) l) := FH.out.keeps hk (by omega)
          have FS : Hid (SrcT v_21 sb B a len cap ((U + 1 + 64 + 1 + 1) + 1)) := hs
          have FK : Hid (Keeps sb w v_21) := FK.out.trans hk
          have FL6 : Hid (LstAt v_21 lb6 [(-1), h.fl, 1]) := FL6.out.keeps hk (by omega)
          clear hs hk
          have mv := FH.out.f.c1
          have mh := F0.out.c0
          try dsimp only
          refine hK.out _ _ (by (try dsimp only); first | exact ⟨mv, mh⟩ | go_keep) (fun hHeld => ?_)
          clear hK K
          try simp only [Act.put, List.getElem_toArray, List.getElem_cons_succ, List.getElem_cons_zero, List.setIfInBounds_toArray, List.set_cons_zero, List.set_cons_succ]
          refine tkz 8 rfl ?_
          refine tkz 9 rfl ?_
          refine wpAnyH_ready (rs := [10]) (by kernel_rfl) (by simp) ?_
          refine (AllReadyH.cons rfl (fun K hK => ?_) AllReadyH.nil)
          have u0 := (FH.out.o.ow.p7 HPX.out).c6
          have u1 := FH.out.o.ow.fz (ix * 7 + 6)
          go_simp
          obtain ⟨v_22, hw2⟩ : ∃ v_22, v_22 = v_21.setCell ⟨g, ix * 7 + 6, none⟩ (.int .i64 pv) := ⟨_, rfl⟩
          change K _ (v_21.setCell ⟨g, ix * 7 + 6, none⟩ (.int .i64 pv))
          rw [← hw2]
          clear u0 u1
          have F0 : Hid (HAt v_22 w.heap.size h) := by rw [hw2]; exact F0.out.below ((Below.refl lb _).setCell (show lb ≤ g by omega) _) (by omega)
          have F4 : Hid (LW v_22 (w.heap.size + 1) 0 (.slice none 0 0)) := by rw [hw2]; exact F4.out.below ((Below.refl lb _).setCell (show lb ≤ g by omega) _) (by omega)
          have FH : Hid (Lg1 v_22 lb nx (.slice (some ⟨g, 0, none⟩) l.length cp) (l.set ix (⟨p.id, p.fr, p.tw, p.sh, p.ca, p.st, pv⟩ : Pe))) := by rw [hw2]; exact FH.out.setP rfl (k := 6) HPX.out (by omega) rfl (by omega)
          have FS : Hid (SrcT v_22 sb B a len cap ((U + 1 + 64 + 1 + 1) + 1)) := by rw [hw2]; exact FS.out.belowL ((Below.refl lb _).setCell (show lb ≤ g by omega) _) (by omega)
          have FK : Hid (Keeps sb w v_22) := by rw [hw2]; exact FK.out.belowL ((Below.refl lb _).setCell (show lb ≤ g by omega) _) (by omega)
          clear hw2
          have mv := FH.out.f.c1
          have mh := F0.out.c0
          refine hK.out _ _ (by (try dsimp only); first | exact ⟨mv, mh⟩ | go_keep) (fun hHeld => ?_)
          clear hK K
          try simp only [Act.put, List.getElem_toArray, List.getElem_cons_succ, List.getElem_cons_zero, List.setIfInBounds_toArray, List.set_cons_zero, List.set_cons_succ]
          refine wpAnyH_done (by kernel_rfl) ?_ _
          go_upto_region 45 with fail
          obtain ⟨o0, o1, o2, o3⟩ := FH.out.f
          obtain ⟨r0, r1, r2, r3⟩ := F4.out
          go_wp2_with fail
          exact bodyPost_ret (v := .agg #[.int .i64 nx, .slice (some ⟨g, 0, none⟩) l.length cp]) (by simp [results, Try.results48, go_sem, r0, r1]) rfl ⟨_, _, (l.set ix (⟨p.id, p.fr, p.tw, p.sh, p.ca, p.st, pv⟩ : Pe)), rfl, ((FH.out.o.base (show w.heap.size ≤ lb + 1 by omega)).other (p := ⟨w.heap.size + 1, 0, none⟩) NEW0 _).other (p := ⟨w.heap.size + 1, 1, none⟩) NEW0 _, FH.out.n, ((FS.out.other _ _ _ (by omega) (by have := FS.out.hB; omega)).other _ _ _ (by omega) (by have := FS.out.hB; omega)).more (by omega), (FK.out.own (show w.heap.size ≤ w.heap.size + 1 by omega) _ _).own (show w.heap.size ≤ w.heap.size + 1 by omega) _ _⟩
        · go_upto_region 45 with (go_at_call 33; refine (l1Pick_at_t sb B 2 [0, 1, 1000000000000000, 1000000000000001] a len cap (U + 1 + 64 + 1 + 1) w4 _ rfl FS.out (by omega) (by simp) (by simp)).mono ?_; rintro e w5 ⟨pv, rfl, hs, hk⟩; have F0 : Hid (HAt w5 w.heap.size h) := F0.out.keeps hk (by omega); have F4 : Hid (LW w5 (w.heap.size + 1) 0 (.slice none 0 0)) := F4.out.keeps hk (by omega); have FH : Hid (Lg1 w5 lb nx (.slice (some ⟨g, 0, none⟩) l.length cp) l) := FH.out.keeps hk (by omega); have FK : Hid (Keeps sb w w5) := FK.out.trans hk; have FS : Hid (SrcT w5 sb B a len cap (U + 1 + 64 + 1 + 1 + 1)) := hs; clear hk hs; obtain ⟨o0, o1, o2, o3⟩ := FH.out.f)
          obtain ⟨w6, hw6⟩ : ∃ w6, w6 = w5.setCell ⟨lb, 0, none⟩ (.int .i64 pv) := ⟨_, rfl⟩
          have G1 : Hid (LW w6 lb pv (.slice (some ⟨g, 0, none⟩) l.length cp)) := by rw [hw6]; exact FH.out.f.set0 pv
          have G2 : Hid (Own w6 (lb + 1) (.slice (some ⟨g, 0, none⟩) l.length cp) l) := by rw [hw6]; exact FH.out.o.other (fun e => by have e2 := Option.some.inj e; simp at e2; omega) _
          have F4 : Hid (LW w6 (w.heap.size + 1) 0 (.slice none 0 0)) := by rw [hw6]; exact F4.out.other (by omega)
          have FS : Hid (SrcT w6 sb B a len cap (U + 1 + 64 + 1 + 1 + 1)) := by rw [hw6]; exact FS.out.other _ _ _ (by omega) (by have := FS.out.hB; omega)
          have FK : Hid (Keeps sb w w6) := by rw [hw6]; exact FK.out.own (show w.heap.size ≤ lb by omega) _ _
          rw [← hw6]
          clear hw6 o0 o1 o2 o3
          obtain ⟨o0, o1, o2, o3⟩ := G1.out
          obtain ⟨r0, r1, r2, r3⟩ := F4.out
          go_wp2_with fail
          exact bodyPost_ret (v := .agg #[.int .i64 pv, .slice (some ⟨g, 0, none⟩) l.length cp]) (by simp [results, Try.results48, go_sem, r0, r1]) rfl ⟨_, _, l, rfl, ((G2.out.base (show w.heap.size ≤ lb + 1 by omega)).other (p := ⟨w.heap.size + 1, 0, none⟩) NEW0 _).other (p := ⟨w.heap.size + 1, 1, none⟩) NEW0 _, hll, ((FS.out.other _ _ _ (by omega) (by have := FS.out.hB; omega)).other _ _ _ (by omega) (by have := FS.out.hB; omega)).more (by omega), (FK.out.own (show w.heap.size ≤ w.heap.size + 1 by omega) _ _).own (show w.heap.size ≤ w.heap.size + 1 by omega) _ _⟩
        · have q0 : ((c : Int) == 0) = false := by simp; omega
          have q1 : ((c : Int) == 1) = false := by simp; omega
          have q2 : ((c : Int) == 2) = false := by simp; omega
          have q3 : ((c : Int) == 3) = false := by simp; omega
          have q4 : ((c : Int) == 4) = false := by simp; omega
          have q5 : ((c : Int) == 5) = false := by simp; omega
          have q6 : ((c : Int) == 6) = false := by simp; omega
          go_upto_region 45 with fail
          obtain ⟨r0, r1, r2, r3⟩ := F4.out
          go_wp2_with fail
          exact bodyPost_ret (v := .agg #[.int .i64 nx, .slice (some ⟨g, 0, none⟩) l.length cp]) (by simp [results, Try.results48, go_sem, r0, r1]) rfl ⟨_, _, l, rfl, ((FH.out.o.base (show w.heap.size ≤ lb + 1 by omega)).other (p := ⟨w.heap.size + 1, 0, none⟩) NEW0 _).other (p := ⟨w.heap.size + 1, 1, none⟩) NEW0 _, hll, ((FS.out.other _ _ _ (by omega) (by have := FS.out.hB; omega)).other _ _ _ (by omega) (by have := FS.out.hB; omega)).more (by omega), (FK.out.own (show w.heap.size ≤ w.heap.size + 1 by omega) _ _).own (show w.heap.size ≤ w.heap.size + 1 by omega) _ _⟩
    · obtain ⟨k, rfl⟩ : ∃ k', k = k' + 1 := ⟨k - 1, by omega⟩
      have HU : Hid (U = T + 1 + (8 - (k + 1)) * 30) := hU
      have hU2 : U + 30 ≤ T + 1 + (8 - k) * 30 := by omega
      have ew : IntKind.i64.wrap (((k : Int) + 1) - 1) = (k : Int) := (IntWalk.i64_in _ (by omega)).trans (by omega)
      clear hU hkp
      obtain ⟨x0_0, x0_1, x0_2, x0_3, x0_4, x0_5, x0_6, x0_7, x0_8, x0_9, x0_10, x0_11⟩ := F0.out
      go_upto_region 6 with (go_at_call 58; refine (l7Two_t h l1 l2 sb B a len cap U _ FS.out (by omega)).mono ?_; rintro e w1 ⟨xa, xb, rfl, hs, hk⟩; have F0 : Hid (HAt w1 w.heap.size h) := F0.out.keeps hk (by omega); have F4 : Hid (LW w1 (w.heap.size + 1) 0 (.slice none 0 0)) := F4.out.keeps hk (by omega); have FG : Hid (LG w1 lb) := FG.out.keeps hk (by omega); have FK : Hid (Keeps sb w w1) := FK.out.trans hk; have FS : Hid (SrcT w1 sb B a len cap (U + 10)) := hs; clear hk hs)
      have F0 : Hid (HAt w1.drew w.heap.size h) := F0.out.below (Below.refl _ _).drew F0.out.lt
      have F4 : Hid (LW w1.drew (w.heap.size + 1) 0 (.slice none 0 0)) := F4.out.below (Below.refl _ _).drew F4.out.lt
      have FG : Hid (LG w1.drew lb) := FG.out.drew
      have FS : Hid (SrcT w1.drew sb B a len cap (U + 10)) := FS.out.drew
      have FK : Hid (Keeps sb w w1.drew) := FK.out.of_below (Below.refl _ _).drew
      obtain ⟨x0_0, x0_1, x0_2, x0_3, x0_4, x0_5, x0_6, x0_7, x0_8, x0_9, x0_10, x0_11⟩ := F0.out
      refine wp_region_held_drew (S := (fun w'' => w''.cell? ⟨w.heap.size, 0, none⟩ = some (.int .i64 h.fl) ∧ w''.cell? ⟨w.heap.size, 1, none⟩ = some (.int .i64 h.gp) ∧ w''.cell? ⟨w.heap.size, 2, none⟩ = some (.int .i64 h.ln) ∧ w''.cell? ⟨w.heap.size, 3, none⟩ = some (.int .i64 h.rf) ∧ w''.cell? ⟨w.heap.size, 4, none⟩ = some (.int .i64 h.sp) ∧ w''.cell? ⟨w.heap.size, 5, none⟩ = some (.int .i64 h.pu) ∧ w''.cell? ⟨w.heap.size, 6, none⟩ = some (.int .i64 h.br) ∧ w''.cell? ⟨w.heap.size, 7, none⟩ = some (.int .i64 h.dr) ∧ w''.cell? ⟨w.heap.size, 8, none⟩ = some (.int .i64 h.lv) ∧ w''.cell? ⟨w.heap.size, 9, none⟩ = some (.int .i64 h.dO) ∧ w''.cell? ⟨w.heap.size, 10, none⟩ = some (.int .i64 h.ld) ∧ w''.cell? ⟨w.heap.size, 11, none⟩ = some (.int .i64 h.qu))) (by kernel_rfl) (by (try dsimp only); first | exact ⟨x0_0, x0_1, x0_2, x0_3, x0_4, x0_5, x0_6, x0_7, x0_8, x0_9, x0_10, x0_11⟩ | go_keep) (fun hHeld => ?_)
      obtain ⟨v_23, hw1⟩ : ∃ v_23, v_23 = w1.drew := ⟨_, rfl⟩
      have F0 : Hid (HAt v_23 w.heap.size h) := by rw [hw1]; exact F0.out
      have F4 : Hid (LW v_23 (w.heap.size + 1) 0 (.slice none 0 0)) := by rw [hw1]; exact F4.out
      have FG : Hid (LG v_23 lb) := by rw [hw1]; exact FG.out
      have FS : Hid (SrcT v_23 sb B a len cap (U + 10)) := by rw [hw1]; exact FS.out
      have FK : Hid (Keeps sb w v_23) := by rw [hw1]; exact FK.out
      rw [← hw1] at hHeld ⊢
      clear hw1
      obtain ⟨x0_0, x0_1, x0_2, x0_3, x0_4, x0_5, x0_6, x0_7, x0_8, x0_9, x0_10, x0_11⟩ := F0.out
      refine tkz 0 rfl ?_
      refine tkz 1 rfl ?_
      refine tkz 2 rfl ?_
      refine tkz 3 rfl ?_
      refine tkz 5 rfl ?_
      refine wpAnyH_ready (rs := [4]) (by kernel_rfl) (by simp) ?_
      refine (AllReadyH.cons rfl (fun K hK => ?_) AllReadyH.nil)
      go_simp
      refine (l1Next_t sb B a len cap _ 2 _ FS.out (by omega) (by omega) (by omega)).mono ?_
      rintro e v_24 ⟨y1, rfl, hy1, hs, hk⟩
      have F0 : Hid (HAt v_24 w.heap.size h) := F0.out.keeps hk (by omega)
      have F4 : Hid (LW v_24 (w.heap.size + 1) 0 (.slice none 0 0)) := F4.out.keeps hk (by omega)
      have FG : Hid (LG v_24 lb) := FG.out.keeps hk (by omega)
      have FS : Hid (SrcT v_24 sb B a len cap ((U + 10) + 1)) := hs
      have FK : Hid (Keeps sb w v_24) := FK.out.trans hk
      clear hs hk
      obtain ⟨x0_0, x0_1, x0_2, x0_3, x0_4, x0_5, x0_6, x0_7, x0_8, x0_9, x0_10, x0_11⟩ := F0.out
      try dsimp only
      refine hK.out _ _ (by (try dsimp only); first | exact ⟨x0_0, x0_1, x0_2, x0_3, x0_4, x0_5, x0_6, x0_7, x0_8, x0_9, x0_10, x0_11⟩ | go_keep) (fun hHeld => ?_)
      clear hK K
      try simp only [Act.put, List.getElem_toArray, List.getElem_cons_succ, List.getElem_cons_zero, List.setIfInBounds_toArray, List.set_cons_zero, List.set_cons_succ]
      refine wpAnyH_ready (rs := [6]) (by kernel_rfl) (by simp) ?_
      refine (AllReadyH.cons rfl (fun K hK => ?_) AllReadyH.nil)
      go_simp
      refine (l1Next_t sb B a len cap _ 2 _ FS.out (by omega) (by omega) (by omega)).mono ?_
      rintro e v_25 ⟨y2, rfl, hy2, hs, hk⟩
      have F0 : Hid (HAt v_25 w.heap.size h) := F0.out.keeps hk (by omega)
      have F4 : Hid (LW v_25 (w.heap.size + 1) 0 (.slice none 0 0)) := F4.out.keeps hk (by omega)
      have FG : Hid (LG v_25 lb) := FG.out.keeps hk (by omega)
      have FS : Hid (SrcT v_25 sb B a len cap (((U + 10) + 1) + 1)) := hs
      have FK : Hid (Keeps sb w v_25) := FK.out.trans hk
      clear hs hk
      obtain ⟨x0_0, x0_1, x0_2, x0_3, x0_4, x0_5, x0_6, x0_7, x0_8, x0_9, x0_10, x0_11⟩ := F0.out
      try dsimp only
      refine hK.out _ _ (by (try dsimp only); first | exact ⟨x0_0, x0_1, x0_2, x0_3, x0_4, x0_5, x0_6, x0_7, x0_8, x0_9, x0_10, x0_11⟩ | go_keep) (fun hHeld => ?_)
      clear hK K
      try simp only [Act.put, List.getElem_toArray, List.getElem_cons_succ, List.getElem_cons_zero, List.setIfInBounds_toArray, List.set_cons_zero, List.set_cons_succ]
      refine wpAnyH_ready (rs := [7]) (by kernel_rfl) (by simp) ?_
      refine (AllReadyH.cons rfl (fun K hK => ?_) AllReadyH.nil)
      go_simp
      refine (l7Add_lg h lb _ _ _ _ _ FG.out).mono ?_
      rintro e v_26 ⟨⟨kk, rfl⟩, hG, hb⟩
      have F0 : Hid (HAt v_26 w.heap.size h) := F0.out.below hb (by omega)
      have F4 : Hid (LW v_26 (w.heap.size + 1) 0 (.slice none 0 0)) := F4.out.below hb (by omega)
      have FG : Hid (LG v_26 lb) := hG
      have FS : Hid (SrcT v_26 sb B a len cap (((U + 10) + 1) + 1)) := FS.out.belowL hb (by omega)
      have FK : Hid (Keeps sb w v_26) := FK.out.belowL hb (by omega)
      clear hb hG
      obtain ⟨x0_0, x0_1, x0_2, x0_3, x0_4, x0_5, x0_6, x0_7, x0_8, x0_9, x0_10, x0_11⟩ := F0.out
      try dsimp only
      refine hK.out _ _ (by (try dsimp only); first | exact ⟨x0_0, x0_1, x0_2, x0_3, x0_4, x0_5, x0_6, x0_7, x0_8, x0_9, x0_10, x0_11⟩ | go_keep) (fun hHeld => ?_)
      clear hK K
      try simp only [Act.put, List.getElem_toArray, List.getElem_cons_succ, List.getElem_cons_zero, List.setIfInBounds_toArray, List.set_cons_zero, List.set_cons_succ]
      refine wpAnyH_done (by kernel_rfl) ?_ _
      go_upto_region 7 with fail
      obtain ⟨w2, hW_⟩ : ∃ w2, w2 = v_26 := ⟨_, rfl⟩
      have F0 : Hid (HAt w2 w.heap.size h) := by rw [hW_]; exact F0.out
      have F4 : Hid (LW w2 (w.heap.size + 1) 0 (.slice none 0 0)) := by rw [hW_]; exact F4.out
      have FG : Hid (LG w2 lb) := by rw [hW_]; exact FG.out
      have FK : Hid (Keeps sb w w2) := by rw [hW_]; exact FK.out
      have FS : Hid (SrcT w2 sb B a len cap (U + 10 + 1 + 1)) := by rw [hW_]; exact FS.out
      rw [← hW_]
      clear hW_
      obtain ⟨nx, v, l, FH_⟩ := FG.out
      rcases FH_.o.cases with ⟨rfl, rfl⟩ | ⟨g, cp, rfl, hBg, hgl, -⟩
      · obtain ⟨v0, v1, v2, v3⟩ := FH_.f
        clear FH_
        go_wp2_with fail
        go_roundw
        case rel => exact ⟨k, by simp, by omega, F0.out, F4.out, FG.out, FS.out.more (by omega), FK.out⟩
        case measure => simp [intOf]
      have FH : Hid (Lg1 w2 lb nx (.slice (some ⟨g, 0, none⟩) l.length cp) l) := FH_
      clear FH_
      obtain ⟨v0, v1, v2, v3⟩ := FH.out.f
      by_cases hl0 : l.length = 0
      · have FG : Hid (LG w2 lb) := FH.out.lg
        obtain rfl := List.eq_nil_of_length_eq_zero hl0
        clear hl0
        go_wp2_with fail
        go_roundw
        case rel => exact ⟨k, by simp, by omega, F0.out, F4.out, FG.out, FS.out.more (by omega), FK.out⟩
        case measure => simp [intOf]
      have bl : decide ((0 : Int) < (l.length : Int)) = true := decide_eq_true (by omega)
      have hlp : 1 ≤ l.length := by omega
      have hlq : 0 < l.length := by omega
      have hne : ¬ l = [] := fun e => hl0 (by rw [e]; rfl)
      clear hl0
      go_upto_if 41 with (go_at_call 34; refine (l1Chance_t sb B a len cap (U + 10 + 1 + 1) 2 _ FS.out (by omega) (by omega) (by omega)).mono ?_; rintro e w3 ⟨ch, rfl, hs, hk⟩; have F0 : Hid (HAt w3 w.heap.size h) := F0.out.keeps hk (by omega); have F4 : Hid (LW w3 (w.heap.size + 1) 0 (.slice none 0 0)) := F4.out.keeps hk (by omega); have FH : Hid (Lg1 w3 lb nx (.slice (some ⟨g, 0, none⟩) l.length cp) l) := FH.out.keeps hk (by omega); have FK : Hid (Keeps sb w w3) := FK.out.trans hk; have FS : Hid (SrcT w3 sb B a len cap (U + 10 + 1 + 1 + 1)) := hs; clear hk hs)
      cases ch
      · have FG : Hid (LG w3 lb) := FH.out.lg
        go_wp2_with fail
        go_roundw
        case rel => exact ⟨k, by simp, by omega, F0.out, F4.out, FG.out, FS.out.more (by omega), FK.out⟩
        case measure => simp [intOf]
      go_upto_region 8 with fail
      go_cut [9] (fun t wx => ∃ pb p, t = .pointer (some ⟨pb, 0, none⟩) ∧ P7 wx pb 0 p ∧ sb ≠ pb ∧ HAt wx w.heap.size h ∧ LW wx (w.heap.size + 1) 0 (.slice none 0 0) ∧ LG wx lb ∧ SrcT wx sb B a len cap (U + 10 + 1 + 1 + 1 + 1) ∧ Keeps sb w wx)
      case first =>
        have F0 : Hid (HAt w3.drew w.heap.size h) := F0.out.below (Below.refl _ _).drew F0.out.lt
        have F4 : Hid (LW w3.drew (w.heap.size + 1) 0 (.slice none 0 0)) := F4.out.below (Below.refl _ _).drew F4.out.lt
        have FH : Hid (Lg1 w3.drew lb nx (.slice (some ⟨g, 0, none⟩) l.length cp) l) := FH.out.drew
        have FS : Hid (SrcT w3.drew sb B a len cap (U + 10 + 1 + 1 + 1)) := FS.out.drew
        have FK : Hid (Keeps sb w w3.drew) := FK.out.of_below (Below.refl _ _).drew
        have mv := FH.out.f.c1
        refine wp_region_held_drew (S := (fun w'' => w''.cell? ⟨lb, 1, none⟩ = some (.slice (some ⟨g, 0, none⟩) l.length cp))) (by kernel_rfl) (by (try dsimp only); first | exact mv | go_keep) (fun hHeld => ?_)
        obtain ⟨v_27, hw1⟩ : ∃ v_27, v_27 = w3.drew := ⟨_, rfl⟩
        have F0 : Hid (HAt v_27 w.heap.size h) := by rw [hw1]; exact F0.out
        have F4 : Hid (LW v_27 (w.heap.size + 1) 0 (.slice none 0 0)) := by rw [hw1]; exact F4.out
        have FH : Hid (Lg1 v_27 lb nx (.slice (some ⟨g, 0, none⟩) l.length cp) l) := by rw [hw1]; exact FH.out
        have FS : Hid (SrcT v_27 sb B a len cap (U + 10 + 1 + 1 + 1)) := by rw [hw1]; exact FS.out
        have FK : Hid (Keeps sb w v_27) := by rw [hw1]; exact FK.out
        rw [← hw1] at hHeld ⊢
        clear hw1
        have mv := FH.out.f.c1
        refine tkz 0 rfl ?_
        refine tkz 1 rfl ?_
        refine tkz 2 rfl ?_
        refine tkz 3 rfl ?_
        refine tkz 4 rfl ?_
        refine wpAnyH_ready (rs := [5, 9]) (by kernel_rfl) (by simp) ?_
        refine (AllReadyH.cons rfl (fun K hK => ?_) (AllReadyH.cons rfl (fun K hK => ?_) AllReadyH.nil))
        · go_simp
          refine hK.out _ _ (by (try dsimp only); first | exact mv | go_keep) (fun hHeld => ?_)
          clear hK K
          try simp only [Act.put, List.getElem_toArray, List.getElem_cons_succ, List.getElem_cons_zero, List.setIfInBounds_toArray, List.set_cons_zero, List.set_cons_succ]
          refine wpAnyH_ready (rs := [6, 9]) (by kernel_rfl) (by simp) ?_
          refine (AllReadyH.cons rfl (fun K hK => ?_) (AllReadyH.cons rfl (fun K hK => ?_) AllReadyH.nil))
          · go_simp
            refine (l1Next_t sb B a len cap _ (l.length : Int) _ FS.out (by omega) (by omega) (by have := FH.out.n; omega)).mono ?_
            rintro e v_28 ⟨ix, rfl, hix, hs, hk⟩
            have F0 : Hid (HAt v_28 w.heap.size h) := F0.out.keeps hk (by omega)
            have F4 : Hid (LW v_28 (w.heap.size + 1) 0 (.slice none 0 0)) := F4.out.keeps hk (by omega)
            have FH : Hid (Lg1 v_28 lb nx (.slice (some ⟨g, 0, none⟩) l.length cp) l) := FH.out.keeps hk (by omega)
            have FS : Hid (SrcT v_28 sb B a len cap ((U + 10 + 1 + 1 + 1) + 1)) := hs
            have FK : Hid (Keeps sb w v_28) := FK.out.trans hk
            clear hs hk
            have mv := FH.out.f.c1
            try dsimp only
            refine hK.out _ _ (by (try dsimp only); first | exact mv | go_keep) (fun hHeld => ?_)
            clear hK K
            try simp only [Act.put, List.getElem_toArray, List.getElem_cons_succ, List.getElem_cons_zero, List.setIfInBounds_toArray, List.set_cons_zero, List.set_cons_succ]
            refine tkz 7 rfl ?_
            refine wpAnyH_ready (rs := [8, 9]) (by kernel_rfl) (by simp) ?_
            refine (AllReadyH.cons rfl (fun K hK => ?_) (AllReadyH.cons rfl (fun K hK => ?_) AllReadyH.nil))
            · obtain ⟨p, hp⟩ : ∃ p, l[ix]? = some p := ⟨_, List.getElem?_eq_getElem (by omega)⟩
              obtain ⟨d0, d1, d2, d3, d4, d5, d6⟩ := FH.out.o.ow.p7 hp
              go_simp
              refine hK.out _ _ (by (try dsimp only); first | exact mv | go_keep) (fun hHeld => ?_)
              clear hK K
              try simp only [Act.put, List.getElem_toArray, List.getElem_cons_succ, List.getElem_cons_zero, List.setIfInBounds_toArray, List.set_cons_zero, List.set_cons_succ]
              refine wpAnyH_ready (rs := [9]) (by kernel_rfl) (by simp) ?_
              refine (AllReadyH.cons rfl (fun K hK => ?_) AllReadyH.nil)
              go_simp
              obtain ⟨pb, hbb⟩ : ∃ pb, pb = v_28.heap.size := ⟨_, rfl⟩
              obtain ⟨v_29, hw2⟩ : ∃ v_29, v_29 = v_28.alloc (.cells #[.int .i64 0, .int .i64 0, .int .i64 0, .int .i64 0, .int .i64 0, .int .i64 0, .int .i64 0] 42) := ⟨_, rfl⟩
              have nl1 := FH.out.lt
              have nl2 := (FH.out.o.lt g rfl).2
              rw [← hbb] at nl1 nl2
              have npb_0 := F0.out.lt
              rw [← hbb] at npb_0
              have npb_1 := F4.out.lt
              rw [← hbb] at npb_1
              have npb_s := FS.out.lt
              rw [← hbb] at npb_s
              have FZ : Hid (PWz v_29 pb) := by rw [hw2]; exact PWz.at_ v_28 pb hbb
              have F0 : Hid (HAt v_29 w.heap.size h) := by rw [hw2]; exact F0.out.alloc _
              have F4 : Hid (LW v_29 (w.heap.size + 1) 0 (.slice none 0 0)) := by rw [hw2]; exact F4.out.alloc _
              have FH : Hid (Lg1 v_29 lb nx (.slice (some ⟨g, 0, none⟩) l.length cp) l) := by rw [hw2]; exact FH.out.alloc _
              have FS : Hid (SrcT v_29 sb B a len cap ((U + 10 + 1 + 1 + 1) + 1)) := by rw [hw2]; exact FS.out.alloc _
              have FK : Hid (Keeps sb w v_29) := by rw [hw2]; exact FK.out.alloc _
              rw [← hw2, ← hbb]
              clear hbb hw2
              have mv := FH.out.f.c1
              refine hK.out _ _ (by (try dsimp only); first | exact mv | go_keep) (fun hHeld => ?_)
              clear hK K
              try simp only [Act.put, List.getElem_toArray, List.getElem_cons_succ, List.getElem_cons_zero, List.setIfInBounds_toArray, List.set_cons_zero, List.set_cons_succ]
              refine wpAnyH_ready (rs := [10]) (by kernel_rfl) (by simp) ?_
              refine (AllReadyH.cons rfl (fun K hK => ?_) AllReadyH.nil)
              obtain ⟨z0, z1, z2, z3, z4, z5, z6, z7, z8, z9, za, zb, zc, zd⟩ := FZ.out
              go_simp
              obtain ⟨v_30, hw2⟩ : ∃ v_30, v_30 = putP v_29 pb 0 p := ⟨_, rfl⟩
              change K _ (putP v_29 pb 0 p)
              rw [← hw2]
              clear z0 z1 z2 z3 z4 z5 z6 z7 z8 z9 za zb zc zd
              have F0 : Hid (HAt v_30 w.heap.size h) := by rw [hw2]; exact F0.out.below (below_putP (Below.refl (w.heap.size + 1) _) (by omega) _ _) (by omega)
              have F4 : Hid (LW v_30 (w.heap.size + 1) 0 (.slice none 0 0)) := by rw [hw2]; exact F4.out.below (below_putP (Below.refl (w.heap.size + 2) _) (by omega) _ _) (by omega)
              have FH : Hid (Lg1 v_30 lb nx (.slice (some ⟨g, 0, none⟩) l.length cp) l) := by rw [hw2]; exact FH.out.put7 (by omega) (by omega) _
              have FS : Hid (SrcT v_30 sb B a len cap ((U + 10 + 1 + 1 + 1) + 1)) := by rw [hw2]; exact FS.out.belowL (below_putP (Below.refl (sb + 1) _) (by omega) _ _) (by omega)
              have FK : Hid (Keeps sb w v_30) := by rw [hw2]; exact FK.out.belowL (below_putP (Below.refl w.heap.size _) (by omega) _ _) (Nat.le_refl _)
              have FZ : Hid (P7 v_30 pb 0 p) := by rw [hw2]; exact FZ.out.put p
              clear hw2
              have mv := FH.out.f.c1
              refine hK.out _ _ (by (try dsimp only); first | exact mv | go_keep) (fun hHeld => ?_)
              clear hK K
              try simp only [Act.put, List.getElem_toArray, List.getElem_cons_succ, List.getElem_cons_zero, List.setIfInBounds_toArray, List.set_cons_zero, List.set_cons_succ]
              refine wpAnyH_done (by kernel_rfl) ?_ _
              go_wp2_with fail
              go_meet
              case rel => exact ⟨pb, p, rfl, FZ.out, by omega, F0.out, F4.out, FH.out.lg, FS.out, FK.out⟩
            · go_simp
              obtain ⟨pb, hbb⟩ : ∃ pb, pb = v_28.heap.size := ⟨_, rfl⟩
              obtain ⟨v_31, hw2⟩ : ∃ v_31, v_31 = v_28.alloc (.cells #[.int .i64 0, .int .i64 0, .int .i64 0, .int .i64 0, .int .i64 0, .int .i64 0, .int .i64 0] 42) := ⟨_, rfl⟩
              have nl1 := FH.out.lt
              have nl2 := (FH.out.o.lt g rfl).2
              rw [← hbb] at nl1 nl2
              have npb_0 := F0.out.lt
              rw [← hbb] at npb_0
              have npb_1 := F4.out.lt
              rw [← hbb] at npb_1
              have npb_s := FS.out.lt
              rw [← hbb] at npb_s
              have FZ : Hid (PWz v_31 pb) := by rw [hw2]; exact PWz.at_ v_28 pb hbb
              have F0 : Hid (HAt v_31 w.heap.size h) := by rw [hw2]; exact F0.out.alloc _
              have F4 : Hid (LW v_31 (w.heap.size + 1) 0 (.slice none 0 0)) := by rw [hw2]; exact F4.out.alloc _
              have FH : Hid (Lg1 v_31 lb nx (.slice (some ⟨g, 0, none⟩) l.length cp) l) := by rw [hw2]; exact FH.out.alloc _
              have FS : Hid (SrcT v_31 sb B a len cap ((U + 10 + 1 + 1 + 1) + 1)) := by rw [hw2]; exact FS.out.alloc _
              have FK : Hid (Keeps sb w v_31) := by rw [hw2]; exact FK.out.alloc _
              rw [← hw2, ← hbb]
              clear hbb hw2
              have mv := FH.out.f.c1
              refine hK.out _ _ (by (try dsimp only); first | exact mv | go_keep) (fun hHeld => ?_)
              clear hK K
              try simp only [Act.put, List.getElem_toArray, List.getElem_cons_succ, List.getElem_cons_zero, List.setIfInBounds_toArray, List.set_cons_zero, List.set_cons_succ]
              refine wpAnyH_ready (rs := [8]) (by kernel_rfl) (by simp) ?_
              refine (AllReadyH.cons rfl (fun K hK => ?_) AllReadyH.nil)
              obtain ⟨p, hp⟩ : ∃ p, l[ix]? = some p := ⟨_, List.getElem?_eq_getElem (by omega)⟩
              obtain ⟨d0, d1, d2, d3, d4, d5, d6⟩ := FH.out.o.ow.p7 hp
              go_simp
              refine hK.out _ _ (by (try dsimp only); first | exact mv | go_keep) (fun hHeld => ?_)
              clear hK K
              try simp only [Act.put, List.getElem_toArray, List.getElem_cons_succ, List.getElem_cons_zero, List.setIfInBounds_toArray, List.set_cons_zero, List.set_cons_succ]
              refine wpAnyH_ready (rs := [10]) (by kernel_rfl) (by simp) ?_
              refine (AllReadyH.cons rfl (fun K hK => ?_) AllReadyH.nil)
              obtain ⟨z0, z1, z2, z3, z4, z5, z6, z7, z8, z9, za, zb, zc, zd⟩ := FZ.out
              go_simp
              obtain ⟨v_32, hw2⟩ : ∃ v_32, v_32 = putP v_31 pb 0 p := ⟨_, rfl⟩
              change K _ (putP v_31 pb 0 p)
              rw [← hw2]
              clear z0 z1 z2 z3 z4 z5 z6 z7 z8 z9 za zb zc zd
              have F0 : Hid (HAt v_32 w.heap.size h) := by rw [hw2]; exact F0.out.below (below_putP (Below.refl (w.heap.size + 1) _) (by omega) _ _) (by omega)
              have F4 : Hid (LW v_32 (w.heap.size + 1) 0 (.slice none 0 0)) := by rw [hw2]; exact F4.out.below (below_putP (Below.refl (w.heap.size + 2) _) (by omega) _ _) (by omega)
              have FH : Hid (Lg1 v_32 lb nx (.slice (some ⟨g, 0, none⟩) l.length cp) l) := by rw [hw2]; exact FH.out.put7 (by omega) (by omega) _
              have FS : Hid (SrcT v_32 sb B a len cap ((U + 10 + 1 + 1 + 1) + 1)) := by rw [hw2]; exact FS.out.belowL (below_putP (Below.refl (sb + 1) _) (by omega) _ _) (by omega)
              have FK : Hid (Keeps sb w v_32) := by rw [hw2]; exact FK.out.belowL (below_putP (Below.refl w.heap.size _) (by omega) _ _) (Nat.le_refl _)
              have FZ : Hid (P7 v_32 pb 0 p) := by rw [hw2]; exact FZ.out.put p
              clear hw2
              have mv := FH.out.f.c1
              refine hK.out _ _ (by (try dsimp only); first | exact mv | go_keep) (fun hHeld => ?_)
              clear hK K
              try simp only [Act.put, List.getElem_toArray, List.getElem_cons_succ, List.getElem_cons_zero, List.setIfInBounds_toArray, List.set_cons_zero, List.set_cons_succ]
              refine wpAnyH_done (by kernel_rfl) ?_ _
              go_wp2_with fail
              go_meet
              case rel => exact ⟨pb, p, rfl, FZ.out, by omega, F0.out, F4.out, FH.out.lg, FS.out, FK.out⟩
          · go_simp
            obtain ⟨pb, hbb⟩ : ∃ pb, pb = v_27.heap.size := ⟨_, rfl⟩
            obtain ⟨v_33, hw2⟩ : ∃ v_33, v_33 = v_27.alloc (.cells #[.int .i64 0, .int .i64 0, .int .i64 0, .int .i64 0, .int .i64 0, .int .i64 0, .int .i64 0] 42) := ⟨_, rfl⟩
            have nl1 := FH.out.lt
            have nl2 := (FH.out.o.lt g rfl).2
            rw [← hbb] at nl1 nl2
            have npb_0 := F0.out.lt
            rw [← hbb] at npb_0
            have npb_1 := F4.out.lt
            rw [← hbb] at npb_1
            have npb_s := FS.out.lt
            rw [← hbb] at npb_s
            have FZ : Hid (PWz v_33 pb) := by rw [hw2]; exact PWz.at_ v_27 pb hbb
            have F0 : Hid (HAt v_33 w.heap.size h) := by rw [hw2]; exact F0.out.alloc _
            have F4 : Hid (LW v_33 (w.heap.size + 1) 0 (.slice none 0 0)) := by rw [hw2]; exact F4.out.alloc _
            have FH : Hid (Lg1 v_33 lb nx (.slice (some ⟨g, 0, none⟩) l.length cp) l) := by rw [hw2]; exact FH.out.alloc _
            have FS : Hid (SrcT v_33 sb B a len cap (U + 10 + 1 + 1 + 1)) := by rw [hw2]; exact FS.out.alloc _
            have FK : Hid (Keeps sb w v_33) := by rw [hw2]; exact FK.out.alloc _
            rw [← hw2, ← hbb]
            clear hbb hw2
            have mv := FH.out.f.c1
            refine hK.out _ _ (by (try dsimp only); first | exact mv | go_keep) (fun hHeld => ?_)
            clear hK K
            try simp only [Act.put, List.getElem_toArray, List.getElem_cons_succ, List.getElem_cons_zero, List.setIfInBounds_toArray, List.set_cons_zero, List.set_cons_succ]
            refine wpAnyH_ready (rs := [6]) (by kernel_rfl) (by simp) ?_
            refine (AllReadyH.cons rfl (fun K hK => ?_) AllReadyH.nil)
            go_simp
            refine (l1Next_t sb B a len cap _ (l.length : Int) _ FS.out (by omega) (by omega) (by have := FH.out.n; omega)).mono ?_
            rintro e v_34 ⟨ix, rfl, hix, hs, hk⟩
            have F0 : Hid (HAt v_34 w.heap.size h) := F0.out.keeps hk (by omega)
            have F4 : Hid (LW v_34 (w.heap.size + 1) 0 (.slice none 0 0)) := F4.out.keeps hk (by omega)
            have FH : Hid (Lg1 v_34 lb nx (.slice (some ⟨g, 0, none⟩) l.length cp) l) := FH.out.keeps hk (by omega)
            have FS : Hid (SrcT v_34 sb B a len cap ((U + 10 + 1 + 1 + 1) + 1)) := hs
            have FK : Hid (Keeps sb w v_34) := FK.out.trans hk
            have FZ : Hid (PWz v_34 pb) := FZ.out.keeps hk (by omega)
            clear hs hk
            have mv := FH.out.f.c1
            try dsimp only
            refine hK.out _ _ (by (try dsimp only); first | exact mv | go_keep) (fun hHeld => ?_)
            clear hK K
            try simp only [Act.put, List.getElem_toArray, List.getElem_cons_succ, List.getElem_cons_zero, List.setIfInBounds_toArray, List.set_cons_zero, List.set_cons_succ]
            refine tkz 7 rfl ?_
            refine wpAnyH_ready (rs := [8]) (by kernel_rfl) (by simp) ?_
            refine (AllReadyH.cons rfl (fun K hK => ?_) AllReadyH.nil)
            obtain ⟨p, hp⟩ : ∃ p, l[ix]? = some p := ⟨_, List.getElem?_eq_getElem (by omega)⟩
            obtain ⟨d0, d1, d2, d3, d4, d5, d6⟩ := FH.out.o.ow.p7 hp
            go_simp
            refine hK.out _ _ (by (try dsimp only); first | exact mv | go_keep) (fun hHeld => ?_)
            clear hK K
            try simp only [Act.put, List.getElem_toArray, List.getElem_cons_succ, List.getElem_cons_zero, List.setIfInBounds_toArray, List.set_cons_zero, List.set_cons_succ]
            refine wpAnyH_ready (rs := [10]) (by kernel_rfl) (by simp) ?_
            refine (AllReadyH.cons rfl (fun K hK => ?_) AllReadyH.nil)
            obtain ⟨z0, z1, z2, z3, z4, z5, z6, z7, z8, z9, za, zb, zc, zd⟩ := FZ.out
            go_simp
            obtain ⟨v_35, hw2⟩ : ∃ v_35, v_35 = putP v_34 pb 0 p := ⟨_, rfl⟩
            change K _ (putP v_34 pb 0 p)
            rw [← hw2]
            clear z0 z1 z2 z3 z4 z5 z6 z7 z8 z9 za zb zc zd
            have F0 : Hid (HAt v_35 w.heap.size h) := by rw [hw2]; exact F0.out.below (below_putP (Below.refl (w.heap.size + 1) _) (by omega) _ _) (by omega)
            have F4 : Hid (LW v_35 (w.heap.size + 1) 0 (.slice none 0 0)) := by rw [hw2]; exact F4.out.below (below_putP (Below.refl (w.heap.size + 2) _) (by omega) _ _) (by omega)
            have FH : Hid (Lg1 v_35 lb nx (.slice (some ⟨g, 0, none⟩) l.length cp) l) := by rw [hw2]; exact FH.out.put7 (by omega) (by omega) _
            have FS : Hid (SrcT v_35 sb B a len cap ((U + 10 + 1 + 1 + 1) + 1)) := by rw [hw2]; exact FS.out.belowL (below_putP (Below.refl (sb + 1) _) (by omega) _ _) (by omega)
            have FK : Hid (Keeps sb w v_35) := by rw [hw2]; exact FK.out.belowL (below_putP (Below.refl w.heap.size _) (by omega) _ _) (Nat.le_refl _)
            have FZ : Hid (P7 v_35 pb 0 p) := by rw [hw2]; exact FZ.out.put p
            clear hw2
            have mv := FH.out.f.c1
            refine hK.out _ _ (by (try dsimp only); first | exact mv | go_keep) (fun hHeld => ?_)
            clear hK K
            try simp only [Act.put, List.getElem_toArray, List.getElem_cons_succ, List.getElem_cons_zero, List.setIfInBounds_toArray, List.set_cons_zero, List.set_cons_succ]
            refine wpAnyH_done (by kernel_rfl) ?_ _
            go_wp2_with fail
            go_meet
            case rel => exact ⟨pb, p, rfl, FZ.out, by omega, F0.out, F4.out, FH.out.lg, FS.out, FK.out⟩
        · go_simp
          obtain ⟨pb, hbb⟩ : ∃ pb, pb = v_27.heap.size := ⟨_, rfl⟩
          obtain ⟨v_36, hw2⟩ : ∃ v_36, v_36 = v_27.alloc (.cells #[.int .i64 0, .int .i64 0, .int .i64 0, .int .i64 0, .int .i64 0, .int .i64 0, .int .i64 0] 42) := ⟨_, rfl⟩
          have nl1 := FH.out.lt
          have nl2 := (FH.out.o.lt g rfl).2
          rw [← hbb] at nl1 nl2
          have npb_0 := F0.out.lt
          rw [← hbb] at npb_0
          have npb_1 := F4.out.lt
          rw [← hbb] at npb_1
          have npb_s := FS.out.lt
          rw [← hbb] at npb_s
          have FZ : Hid (PWz v_36 pb) := by rw [hw2]; exact PWz.at_ v_27 pb hbb
          have F0 : Hid (HAt v_36 w.heap.size h) := by rw [hw2]; exact F0.out.alloc _
          have F4 : Hid (LW v_36 (w.heap.size + 1) 0 (.slice none 0 0)) := by rw [hw2]; exact F4.out.alloc _
          have FH : Hid (Lg1 v_36 lb nx (.slice (some ⟨g, 0, none⟩) l.length cp) l) := by rw [hw2]; exact FH.out.alloc _
          have FS : Hid (SrcT v_36 sb B a len cap (U + 10 + 1 + 1 + 1)) := by rw [hw2]; exact FS.out.alloc _
          have FK : Hid (Keeps sb w v_36) := by rw [hw2]; exact FK.out.alloc _
          rw [← hw2, ← hbb]
          clear hbb hw2
          have mv := FH.out.f.c1
          refine hK.out _ _ (by (try dsimp only); first | exact mv | go_keep) (fun hHeld => ?_)
          clear hK K
          try simp only [Act.put, List.getElem_toArray, List.getElem_cons_succ, List.getElem_cons_zero, List.setIfInBounds_toArray, List.set_cons_zero, List.set_cons_succ]
          refine wpAnyH_ready (rs := [5]) (by kernel_rfl) (by simp) ?_
          refine (AllReadyH.cons rfl (fun K hK => ?_) AllReadyH.nil)
          go_simp
          refine hK.out _ _ (by (try dsimp only); first | exact mv | go_keep) (fun hHeld => ?_)
          clear hK K
          try simp only [Act.put, List.getElem_toArray, List.getElem_cons_succ, List.getElem_cons_zero, List.setIfInBounds_toArray, List.set_cons_zero, List.set_cons_succ]
          refine wpAnyH_ready (rs := [6]) (by kernel_rfl) (by simp) ?_
          refine (AllReadyH.cons rfl (fun K hK => ?_) AllReadyH.nil)
          go_simp
          refine (l1Next_t sb B a len cap _ (l.length : Int) _ FS.out (by omega) (by omega) (by have := FH.out.n; omega)).mono ?_
          rintro e v_37 ⟨ix, rfl, hix, hs, hk⟩
          have F0 : Hid (HAt v_37 w.heap.size h) := F0.out.keeps hk (by omega)
          have F4 : Hid (LW v_37 (w.heap.size + 1) 0 (.slice none 0 0)) := F4.out.keeps hk (by omega)
          have FH : Hid (Lg1 v_37 lb nx (.slice (some ⟨g, 0, none⟩) l.length cp) l) := FH.out.keeps hk (by omega)
          have FS : Hid (SrcT v_37 sb B a len cap ((U + 10 + 1 + 1 + 1) + 1)) := hs
          have FK : Hid (Keeps sb w v_37) := FK.out.trans hk
          have FZ : Hid (PWz v_37 pb) := FZ.out.keeps hk (by omega)
          clear hs hk
          have mv := FH.out.f.c1
          try dsimp only
          refine hK.out _ _ (by (try dsimp only); first | exact mv | go_keep) (fun hHeld => ?_)
          clear hK K
          try simp only [Act.put, List.getElem_toArray, List.getElem_cons_succ, List.getElem_cons_zero, List.setIfInBounds_toArray, List.set_cons_zero, List.set_cons_succ]
          refine tkz 7 rfl ?_
          refine wpAnyH_ready (rs := [8]) (by kernel_rfl) (by simp) ?_
          refine (AllReadyH.cons rfl (fun K hK => ?_) AllReadyH.nil)
          obtain ⟨p, hp⟩ : ∃ p, l[ix]? = some p := ⟨_, List.getElem?_eq_getElem (by omega)⟩
          obtain ⟨d0, d1, d2, d3, d4, d5, d6⟩ := FH.out.o.ow.p7 hp
          go_simp
          refine hK.out _ _ (by (try dsimp only); first | exact mv | go_keep) (fun hHeld => ?_)
          clear hK K
          try simp only [Act.put, List.getElem_toArray, List.getElem_cons_succ, List.getElem_cons_zero, List.setIfInBounds_toArray, List.set_cons_zero, List.set_cons_succ]
          refine wpAnyH_ready (rs := [10]) (by kernel_rfl) (by simp) ?_
          refine (AllReadyH.cons rfl (fun K hK => ?_) AllReadyH.nil)
          obtain ⟨z0, z1, z2, z3, z4, z5, z6, z7, z8, z9, za, zb, zc, zd⟩ := FZ.out
          go_simp
          obtain ⟨v_38, hw2⟩ : ∃ v_38, v_38 = putP v_37 pb 0 p := ⟨_, rfl⟩
          change K _ (putP v_37 pb 0 p)
          rw [← hw2]
          clear z0 z1 z2 z3 z4 z5 z6 z7 z8 z9 za zb zc zd
          have F0 : Hid (HAt v_38 w.heap.size h) := by rw [hw2]; exact F0.out.below (below_putP (Below.refl (w.heap.size + 1) _) (by omega) _ _) (by omega)
          have F4 : Hid (LW v_38 (w.heap.size + 1) 0 (.slice none 0 0)) := by rw [hw2]; exact F4.out.below (below_putP (Below.refl (w.heap.size + 2) _) (by omega) _ _) (by omega)
          have FH : Hid (Lg1 v_38 lb nx (.slice (some ⟨g, 0, none⟩) l.length cp) l) := by rw [hw2]; exact FH.out.put7 (by omega) (by omega) _
          have FS : Hid (SrcT v_38 sb B a len cap ((U + 10 + 1 + 1 + 1) + 1)) := by rw [hw2]; exact FS.out.belowL (below_putP (Below.refl (sb + 1) _) (by omega) _ _) (by omega)
          have FK : Hid (Keeps sb w v_38) := by rw [hw2]; exact FK.out.belowL (below_putP (Below.refl w.heap.size _) (by omega) _ _) (Nat.le_refl _)
          have FZ : Hid (P7 v_38 pb 0 p) := by rw [hw2]; exact FZ.out.put p
          clear hw2
          have mv := FH.out.f.c1
          refine hK.out _ _ (by (try dsimp only); first | exact mv | go_keep) (fun hHeld => ?_)
          clear hK K
          try simp only [Act.put, List.getElem_toArray, List.getElem_cons_succ, List.getElem_cons_zero, List.setIfInBounds_toArray, List.set_cons_zero, List.set_cons_succ]
          refine wpAnyH_done (by kernel_rfl) ?_ _
          go_wp2_with fail
          go_meet
          case rel => exact ⟨pb, p, rfl, FZ.out, by omega, F0.out, F4.out, FH.out.lg, FS.out, FK.out⟩
      case rest =>
        obtain ⟨pb, p, rfl, hFP, hsp, h0, h4, hg_, hs_, hk_⟩ := hcut
        clear F0 F4 FG FS FK FH v0 v1 v2 v3
        have F0 : Hid (HAt wc w.heap.size h) := h0
        have F4 : Hid (LW wc (w.heap.size + 1) 0 (.slice none 0 0)) := h4
        have FG : Hid (LG wc lb) := hg_
        have FK : Hid (Keeps sb w wc) := hk_
        have FS : Hid (SrcT wc sb B a len cap (U + 10 + 1 + 1 + 1 + 1)) := hs_
        have FP : Hid (P7 wc pb 0 p) := hFP
        clear h0 h4 hg_ hs_ hk_ hFP
        obtain ⟨x0_0, x0_1, x0_2, x0_3, x0_4, x0_5, x0_6, x0_7, x0_8, x0_9, x0_10, x0_11⟩ := F0.out
        obtain ⟨z0, z1, z2, z3, z4, z5, z6⟩ := FP.out
        go_upto_region 10 with (go_at_call 35; refine (l1Next_t sb B a len cap (U + 10 + 1 + 1 + 1 + 1) 4 _ FS.out (by omega) (by omega) (by omega)).mono ?_; rintro e w4 ⟨c4, rfl, hc4, hs, hk⟩; have F0 : Hid (HAt w4 w.heap.size h) := F0.out.keeps hk (by omega); have F4 : Hid (LW w4 (w.heap.size + 1) 0 (.slice none 0 0)) := F4.out.keeps hk (by omega); have FG : Hid (LG w4 lb) := FG.out.keeps hk (by omega); have FP : Hid (P7 w4 pb 0 p) := FP.out.keeps hk (by omega); have FK : Hid (Keeps sb w w4) := FK.out.trans hk; have FS : Hid (SrcT w4 sb B a len cap (U + 10 + 1 + 1 + 1 + 1 + 1)) := hs; clear hk hs; obtain ⟨x0_0, x0_1, x0_2, x0_3, x0_4, x0_5, x0_6, x0_7, x0_8, x0_9, x0_10, x0_11⟩ := F0.out; obtain ⟨z0, z1, z2, z3, z4, z5, z6⟩ := FP.out)
        have c4c : c4 = 0 ∨ c4 = 1 ∨ c4 = 2 ∨ c4 = 3 := by omega
        rcases c4c with rfl | rfl | rfl | rfl
        · go_wp2_with (go_at_call 21; refine (l7Board_lg h lb _ _ _ _ FG.out).mono ?_; rintro e w9 ⟨rfl, hG, hb⟩; have F0 : Hid (HAt w9 w.heap.size h) := F0.out.below hb (by omega); have F4 : Hid (LW w9 (w.heap.size + 1) 0 (.slice none 0 0)) := F4.out.below hb (by omega); have FG : Hid (LG w9 lb) := hG; have FK : Hid (Keeps sb w w9) := FK.out.belowL hb (by omega); have FS : Hid (SrcT w9 sb B a len cap (U + 10 + 1 + 1 + 1 + 1 + 1)) := FS.out.belowL hb (by omega); clear hb hG)
          go_roundw
          case rel => exact ⟨k, by simp, by omega, F0.out, F4.out, FG.out, FS.out.more (by omega), FK.out⟩
          case measure => simp [intOf]
        · go_wp2_with (go_at_call 21; refine (l7Board_lg h lb _ _ _ _ FG.out).mono ?_; rintro e w9 ⟨rfl, hG, hb⟩; have F0 : Hid (HAt w9 w.heap.size h) := F0.out.below hb (by omega); have F4 : Hid (LW w9 (w.heap.size + 1) 0 (.slice none 0 0)) := F4.out.below hb (by omega); have FG : Hid (LG w9 lb) := hG; have FK : Hid (Keeps sb w w9) := FK.out.belowL hb (by omega); have FS : Hid (SrcT w9 sb B a len cap (U + 10 + 1 + 1 + 1 + 1 + 1)) := FS.out.belowL hb (by omega); clear hb hG)
          go_roundw
          case rel => exact ⟨k, by simp, by omega, F0.out, F4.out, FG.out, FS.out.more (by omega), FK.out⟩
          case measure => simp [intOf]
        · go_wp2_with (go_at_call 60; refine (l7Alight_lg lb _ _ _ _ FG.out).mono ?_; rintro e w9 ⟨rfl, hG, hb⟩; have F0 : Hid (HAt w9 w.heap.size h) := F0.out.below hb (by omega); have F4 : Hid (LW w9 (w.heap.size + 1) 0 (.slice none 0 0)) := F4.out.below hb (by omega); have FG : Hid (LG w9 lb) := hG; have FK : Hid (Keeps sb w w9) := FK.out.belowL hb (by omega); have FS : Hid (SrcT w9 sb B a len cap (U + 10 + 1 + 1 + 1 + 1 + 1)) := FS.out.belowL hb (by omega); clear hb hG)
          go_roundw
          case rel => exact ⟨k, by simp, by omega, F0.out, F4.out, FG.out, FS.out.more (by omega), FK.out⟩
          case measure => simp [intOf]
        · go_upto_if 76 with (go_at_call 34; refine (l1Chance_t sb B a len cap (U + 10 + 1 + 1 + 1 + 1 + 1) 3 _ FS.out (by omega) (by omega) (by omega)).mono ?_; rintro e w5 ⟨ch2, rfl, hs, hk⟩; have F0 : Hid (HAt w5 w.heap.size h) := F0.out.keeps hk (by omega); have F4 : Hid (LW w5 (w.heap.size + 1) 0 (.slice none 0 0)) := F4.out.keeps hk (by omega); have FG : Hid (LG w5 lb) := FG.out.keeps hk (by omega); have FP : Hid (P7 w5 pb 0 p) := FP.out.keeps hk (by omega); have FK : Hid (Keeps sb w w5) := FK.out.trans hk; have FS : Hid (SrcT w5 sb B a len cap (U + 10 + 1 + 1 + 1 + 1 + 1 + 1)) := hs; clear hk hs; obtain ⟨x0_0, x0_1, x0_2, x0_3, x0_4, x0_5, x0_6, x0_7, x0_8, x0_9, x0_10, x0_11⟩ := F0.out; obtain ⟨z0, z1, z2, z3, z4, z5, z6⟩ := FP.out)
          cases ch2
          · go_wp2_with fail
            go_roundw
            case rel => exact ⟨k, by simp, by omega, F0.out, F4.out, FG.out, FS.out.more (by omega), FK.out⟩
            case measure => simp [intOf]
          · go_upto_region 17 with fail
            have F0 : Hid (HAt w5.drew w.heap.size h) := F0.out.below (Below.refl _ _).drew F0.out.lt
            have F4 : Hid (LW w5.drew (w.heap.size + 1) 0 (.slice none 0 0)) := F4.out.below (Below.refl _ _).drew F4.out.lt
            have FG : Hid (LG w5.drew lb) := FG.out.drew
            have FP : Hid (P7 w5.drew pb 0 p) := FP.out.below (Below.refl _ _).drew FP.out.lt
            have FS : Hid (SrcT w5.drew sb B a len cap (U + 10 + 1 + 1 + 1 + 1 + 1 + 1)) := FS.out.drew
            have FK : Hid (Keeps sb w w5.drew) := FK.out.of_below (Below.refl _ _).drew
            have mfl := F0.out.c0
            refine wp_region_held_drew (S := (fun w'' => w''.cell? ⟨w.heap.size, 0, none⟩ = some (.int .i64 h.fl))) (by kernel_rfl) (by (try dsimp only); first | exact mfl | go_keep) (fun hHeld => ?_)
            obtain ⟨v_39, hw1⟩ : ∃ v_39, v_39 = w5.drew := ⟨_, rfl⟩
            have F0 : Hid (HAt v_39 w.heap.size h) := by rw [hw1]; exact F0.out
            have F4 : Hid (LW v_39 (w.heap.size + 1) 0 (.slice none 0 0)) := by rw [hw1]; exact F4.out
            have FG : Hid (LG v_39 lb) := by rw [hw1]; exact FG.out
            have FP : Hid (P7 v_39 pb 0 p) := by rw [hw1]; exact FP.out
            have FS : Hid (SrcT v_39 sb B a len cap (U + 10 + 1 + 1 + 1 + 1 + 1 + 1)) := by rw [hw1]; exact FS.out
            have FK : Hid (Keeps sb w v_39) := by rw [hw1]; exact FK.out
            rw [← hw1] at hHeld ⊢
            clear hw1
            have mfl := F0.out.c0
            refine tkz 0 rfl ?_
            refine tkz 2 rfl ?_
            refine tkz 4 rfl ?_
            refine tkz 5 rfl ?_
            refine tkz 6 rfl ?_
            refine wpAnyH_ready (rs := [1, 3, 7]) (by kernel_rfl) (by simp) ?_
            refine (AllReadyH.cons rfl (fun K hK => ?_) (AllReadyH.cons rfl (fun K hK => ?_) (AllReadyH.cons rfl (fun K hK => ?_) AllReadyH.nil)))
            · have d3 := FP.out.c3
              have d4 := FP.out.c4
              go_simp
              refine hK.out _ _ (by (try dsimp only); first | exact mfl | go_keep) (fun hHeld => ?_)
              clear hK K
              try simp only [Act.put, List.getElem_toArray, List.getElem_cons_succ, List.getElem_cons_zero, List.setIfInBounds_toArray, List.set_cons_zero, List.set_cons_succ]
              refine wpAnyH_ready (rs := [3, 7]) (by kernel_rfl) (by simp) ?_
              refine (AllReadyH.cons rfl (fun K hK => ?_) (AllReadyH.cons rfl (fun K hK => ?_) AllReadyH.nil))
              · have d3 := FP.out.c3
                have d4 := FP.out.c4
                go_simp
                refine hK.out _ _ (by (try dsimp only); first | exact mfl | go_keep) (fun hHeld => ?_)
                clear hK K
                try simp only [Act.put, List.getElem_toArray, List.getElem_cons_succ, List.getElem_cons_zero, List.setIfInBounds_toArray, List.set_cons_zero, List.set_cons_succ]
                refine wpAnyH_ready (rs := [7]) (by kernel_rfl) (by simp) ?_
                refine (AllReadyH.cons rfl (fun K hK => ?_) AllReadyH.nil)
                go_simp
                refine (l1Next_t sb B a len cap _ h.fl _ FS.out (by omega) (by omega) (by omega)).mono ?_
                rintro e v_40 ⟨y5, rfl, hy5, hs, hk⟩
                have F0 : Hid (HAt v_40 w.heap.size h) := F0.out.keeps hk (by omega)
                have F4 : Hid (LW v_40 (w.heap.size + 1) 0 (.slice none 0 0)) := F4.out.keeps hk (by omega)
                have FG : Hid (LG v_40 lb) := FG.out.keeps hk (by omega)
                have FP : Hid (P7 v_40 pb 0 p) := FP.out.keeps hk (by omega)
                have FS : Hid (SrcT v_40 sb B a len cap ((U + 10 + 1 + 1 + 1 + 1 + 1 + 1) + 1)) := hs
                have FK : Hid (Keeps sb w v_40) := FK.out.trans hk
                clear hs hk
                have mfl := F0.out.c0
                try dsimp only
                refine hK.out _ _ (by (try dsimp only); first | exact mfl | go_keep) (fun hHeld => ?_)
                clear hK K
                try simp only [Act.put, List.getElem_toArray, List.getElem_cons_succ, List.getElem_cons_zero, List.setIfInBounds_toArray, List.set_cons_zero, List.set_cons_succ]
                refine wpAnyH_ready (rs := [8]) (by kernel_rfl) (by simp) ?_
                refine (AllReadyH.cons rfl (fun K hK => ?_) AllReadyH.nil)
                go_simp
                refine (l7Out_lg lb _ _ _ _ FG.out).mono ?_
                rintro e v_41 ⟨rfl, hG, hb⟩
                have F0 : Hid (HAt v_41 w.heap.size h) := F0.out.below hb (by omega)
                have F4 : Hid (LW v_41 (w.heap.size + 1) 0 (.slice none 0 0)) := F4.out.below hb (by omega)
                have FG : Hid (LG v_41 lb) := hG
                have FS : Hid (SrcT v_41 sb B a len cap ((U + 10 + 1 + 1 + 1 + 1 + 1 + 1) + 1)) := FS.out.belowL hb (by omega)
                have FK : Hid (Keeps sb w v_41) := FK.out.belowL hb (by omega)
                clear hb hG
                have mfl := F0.out.c0
                try dsimp only
                refine hK.out _ _ (by (try dsimp only); first | exact mfl | go_keep) (fun hHeld => ?_)
                clear hK K
                try simp only [Act.put, List.getElem_toArray, List.getElem_cons_succ, List.getElem_cons_zero, List.setIfInBounds_toArray, List.set_cons_zero, List.set_cons_succ]
                refine wpAnyH_done (by kernel_rfl) ?_ _
                go_wp2_with fail
                go_roundw
                case rel => exact ⟨k, by simp, by omega, F0.out, F4.out, FG.out, FS.out.more (by omega), FK.out⟩
                case measure => simp [intOf]
              · go_simp
                refine (l1Next_t sb B a len cap _ h.fl _ FS.out (by omega) (by omega) (by omega)).mono ?_
                rintro e v_42 ⟨y5, rfl, hy5, hs, hk⟩
                have F0 : Hid (HAt v_42 w.heap.size h) := F0.out.keeps hk (by omega)
                have F4 : Hid (LW v_42 (w.heap.size + 1) 0 (.slice none 0 0)) := F4.out.keeps hk (by omega)
                have FG : Hid (LG v_42 lb) := FG.out.keeps hk (by omega)
                have FP : Hid (P7 v_42 pb 0 p) := FP.out.keeps hk (by omega)
                have FS : Hid (SrcT v_42 sb B a len cap ((U + 10 + 1 + 1 + 1 + 1 + 1 + 1) + 1)) := hs
                have FK : Hid (Keeps sb w v_42) := FK.out.trans hk
                clear hs hk
                have mfl := F0.out.c0
                try dsimp only
                refine hK.out _ _ (by (try dsimp only); first | exact mfl | go_keep) (fun hHeld => ?_)
                clear hK K
                try simp only [Act.put, List.getElem_toArray, List.getElem_cons_succ, List.getElem_cons_zero, List.setIfInBounds_toArray, List.set_cons_zero, List.set_cons_succ]
                refine wpAnyH_ready (rs := [3]) (by kernel_rfl) (by simp) ?_
                refine (AllReadyH.cons rfl (fun K hK => ?_) AllReadyH.nil)
                have d3 := FP.out.c3
                have d4 := FP.out.c4
                go_simp
                refine hK.out _ _ (by (try dsimp only); first | exact mfl | go_keep) (fun hHeld => ?_)
                clear hK K
                try simp only [Act.put, List.getElem_toArray, List.getElem_cons_succ, List.getElem_cons_zero, List.setIfInBounds_toArray, List.set_cons_zero, List.set_cons_succ]
                refine wpAnyH_ready (rs := [8]) (by kernel_rfl) (by simp) ?_
                refine (AllReadyH.cons rfl (fun K hK => ?_) AllReadyH.nil)
                go_simp
                refine (l7Out_lg lb _ _ _ _ FG.out).mono ?_
                rintro e v_43 ⟨rfl, hG, hb⟩
                have F0 : Hid (HAt v_43 w.heap.size h) := F0.out.below hb (by omega)
                have F4 : Hid (LW v_43 (w.heap.size + 1) 0 (.slice none 0 0)) := F4.out.below hb (by omega)
                have FG : Hid (LG v_43 lb) := hG
                have FS : Hid (SrcT v_43 sb B a len cap ((U + 10 + 1 + 1 + 1 + 1 + 1 + 1) + 1)) := FS.out.belowL hb (by omega)
                have FK : Hid (Keeps sb w v_43) := FK.out.belowL hb (by omega)
                clear hb hG
                have mfl := F0.out.c0
                try dsimp only
                refine hK.out _ _ (by (try dsimp only); first | exact mfl | go_keep) (fun hHeld => ?_)
                clear hK K
                try simp only [Act.put, List.getElem_toArray, List.getElem_cons_succ, List.getElem_cons_zero, List.setIfInBounds_toArray, List.set_cons_zero, List.set_cons_succ]
                refine wpAnyH_done (by kernel_rfl) ?_ _
                go_wp2_with fail
                go_roundw
                case rel => exact ⟨k, by simp, by omega, F0.out, F4.out, FG.out, FS.out.more (by omega), FK.out⟩
                case measure => simp [intOf]
            · have d3 := FP.out.c3
              have d4 := FP.out.c4
              go_simp
              refine hK.out _ _ (by (try dsimp only); first | exact mfl | go_keep) (fun hHeld => ?_)
              clear hK K
              try simp only [Act.put, List.getElem_toArray, List.getElem_cons_succ, List.getElem_cons_zero, List.setIfInBounds_toArray, List.set_cons_zero, List.set_cons_succ]
              refine wpAnyH_ready (rs := [1, 7]) (by kernel_rfl) (by simp) ?_
              refine (AllReadyH.cons rfl (fun K hK => ?_) (AllReadyH.cons rfl (fun K hK => ?_) AllReadyH.nil))
              · have d3 := FP.out.c3
                have d4 := FP.out.c4
                go_simp
                refine hK.out _ _ (by (try dsimp only); first | exact mfl | go_keep) (fun hHeld => ?_)
                clear hK K
                try simp only [Act.put, List.getElem_toArray, List.getElem_cons_succ, List.getElem_cons_zero, List.setIfInBounds_toArray, List.set_cons_zero, List.set_cons_succ]
                refine wpAnyH_ready (rs := [7]) (by kernel_rfl) (by simp) ?_
                refine (AllReadyH.cons rfl (fun K hK => ?_) AllReadyH.nil)
                go_simp
                refine (l1Next_t sb B a len cap _ h.fl _ FS.out (by omega) (by omega) (by omega)).mono ?_
                rintro e v_44 ⟨y5, rfl, hy5, hs, hk⟩
                have F0 : Hid (HAt v_44 w.heap.size h) := F0.out.keeps hk (by omega)
                have F4 : Hid (LW v_44 (w.heap.size + 1) 0 (.slice none 0 0)) := F4.out.keeps hk (by omega)
                have FG : Hid (LG v_44 lb) := FG.out.keeps hk (by omega)
                have FP : Hid (P7 v_44 pb 0 p) := FP.out.keeps hk (by omega)
                have FS : Hid (SrcT v_44 sb B a len cap ((U + 10 + 1 + 1 + 1 + 1 + 1 + 1) + 1)) := hs
                have FK : Hid (Keeps sb w v_44) := FK.out.trans hk
                clear hs hk
                have mfl := F0.out.c0
                try dsimp only
                refine hK.out _ _ (by (try dsimp only); first | exact mfl | go_keep) (fun hHeld => ?_)
                clear hK K
                try simp only [Act.put, List.getElem_toArray, List.getElem_cons_succ, List.getElem_cons_zero, List.setIfInBounds_toArray, List.set_cons_zero, List.set_cons_succ]
                refine wpAnyH_ready (rs := [8]) (by kernel_rfl) (by simp) ?_
                refine (AllReadyH.cons rfl (fun K hK => ?_) AllReadyH.nil)
                go_simp
                refine (l7Out_lg lb _ _ _ _ FG.out).mono ?_
                rintro e v_45 ⟨rfl, hG, hb⟩
                have F0 : Hid (HAt v_45 w.heap.size h) := F0.out.below hb (by omega)
                have F4 : Hid (LW v_45 (w.heap.size + 1) 0 (.slice none 0 0)) := F4.out.below hb (by omega)
                have FG : Hid (LG v_45 lb) := hG
                have FS : Hid (SrcT v_45 sb B a len cap ((U + 10 + 1 + 1 + 1 + 1 + 1 + 1) + 1)) := FS.out.belowL hb (by omega)
                have FK : Hid (Keeps sb w v_45) := FK.out.belowL hb (by omega)
                clear hb hG
                have mfl := F0.out.c0
                try dsimp only
                refine hK.out _ _ (by (try dsimp only); first | exact mfl | go_keep) (fun hHeld => ?_)
                clear hK K
                try simp only [Act.put, List.getElem_toArray, List.getElem_cons_succ, List.getElem_cons_zero, List.setIfInBounds_toArray, List.set_cons_zero, List.set_cons_succ]
                refine wpAnyH_done (by kernel_rfl) ?_ _
                go_wp2_with fail
                go_roundw
                case rel => exact ⟨k, by simp, by omega, F0.out, F4.out, FG.out, FS.out.more (by omega), FK.out⟩
                case measure => simp [intOf]
              · go_simp
                refine (l1Next_t sb B a len cap _ h.fl _ FS.out (by omega) (by omega) (by omega)).mono ?_
                rintro e v_46 ⟨y5, rfl, hy5, hs, hk⟩
                have F0 : Hid (HAt v_46 w.heap.size h) := F0.out.keeps hk (by omega)
                have F4 : Hid (LW v_46 (w.heap.size + 1) 0 (.slice none 0 0)) := F4.out.keeps hk (by omega)
                have FG : Hid (LG v_46 lb) := FG.out.keeps hk (by omega)
                have FP : Hid (P7 v_46 pb 0 p) := FP.out.keeps hk (by omega)
                have FS : Hid (SrcT v_46 sb B a len cap ((U + 10 + 1 + 1 + 1 + 1 + 1 + 1) + 1)) := hs
                have FK : Hid (Keeps sb w v_46) := FK.out.trans hk
                clear hs hk
                have mfl := F0.out.c0
                try dsimp only
                refine hK.out _ _ (by (try dsimp only); first | exact mfl | go_keep) (fun hHeld => ?_)
                clear hK K
                try simp only [Act.put, List.getElem_toArray, List.getElem_cons_succ, List.getElem_cons_zero, List.setIfInBounds_toArray, List.set_cons_zero, List.set_cons_succ]
                refine wpAnyH_ready (rs := [1]) (by kernel_rfl) (by simp) ?_
                refine (AllReadyH.cons rfl (fun K hK => ?_) AllReadyH.nil)
                have d3 := FP.out.c3
                have d4 := FP.out.c4
                go_simp
                refine hK.out _ _ (by (try dsimp only); first | exact mfl | go_keep) (fun hHeld => ?_)
                clear hK K
                try simp only [Act.put, List.getElem_toArray, List.getElem_cons_succ, List.getElem_cons_zero, List.setIfInBounds_toArray, List.set_cons_zero, List.set_cons_succ]
                refine wpAnyH_ready (rs := [8]) (by kernel_rfl) (by simp) ?_
                refine (AllReadyH.cons rfl (fun K hK => ?_) AllReadyH.nil)
                go_simp
                refine (l7Out_lg lb _ _ _ _ FG.out).mono ?_
                rintro e v_47 ⟨rfl, hG, hb⟩
                have F0 : Hid (HAt v_47 w.heap.size h) := F0.out.below hb (by omega)
                have F4 : Hid (LW v_47 (w.heap.size + 1) 0 (.slice none 0 0)) := F4.out.below hb (by omega)
                have FG : Hid (LG v_47 lb) := hG
                have FS : Hid (SrcT v_47 sb B a len cap ((U + 10 + 1 + 1 + 1 + 1 + 1 + 1) + 1)) := FS.out.belowL hb (by omega)
                have FK : Hid (Keeps sb w v_47) := FK.out.belowL hb (by omega)
                clear hb hG
                have mfl := F0.out.c0
                try dsimp only
                refine hK.out _ _ (by (try dsimp only); first | exact mfl | go_keep) (fun hHeld => ?_)
                clear hK K
                try simp only [Act.put, List.getElem_toArray, List.getElem_cons_succ, List.getElem_cons_zero, List.setIfInBounds_toArray, List.set_cons_zero, List.set_cons_succ]
                refine wpAnyH_done (by kernel_rfl) ?_ _
                go_wp2_with fail
                go_roundw
                case rel => exact ⟨k, by simp, by omega, F0.out, F4.out, FG.out, FS.out.more (by omega), FK.out⟩
                case measure => simp [intOf]
            · go_simp
              refine (l1Next_t sb B a len cap _ h.fl _ FS.out (by omega) (by omega) (by omega)).mono ?_
              rintro e v_48 ⟨y5, rfl, hy5, hs, hk⟩
              have F0 : Hid (HAt v_48 w.heap.size h) := F0.out.keeps hk (by omega)
              have F4 : Hid (LW v_48 (w.heap.size + 1) 0 (.slice none 0 0)) := F4.out.keeps hk (by omega)
              have FG : Hid (LG v_48 lb) := FG.out.keeps hk (by omega)
              have FP : Hid (P7 v_48 pb 0 p) := FP.out.keeps hk (by omega)
              have FS : Hid (SrcT v_48 sb B a len cap ((U + 10 + 1 + 1 + 1 + 1 + 1 + 1) + 1)) := hs
              have FK : Hid (Keeps sb w v_48) := FK.out.trans hk
              clear hs hk
              have mfl := F0.out.c0
              try dsimp only
              refine hK.out _ _ (by (try dsimp only); first | exact mfl | go_keep) (fun hHeld => ?_)
              clear hK K
              try simp only [Act.put, List.getElem_toArray, List.getElem_cons_succ, List.getElem_cons_zero, List.setIfInBounds_toArray, List.set_cons_zero, List.set_cons_succ]
              refine wpAnyH_ready (rs := [1, 3]) (by kernel_rfl) (by simp) ?_
              refine (AllReadyH.cons rfl (fun K hK => ?_) (AllReadyH.cons rfl (fun K hK => ?_) AllReadyH.nil))
              · have d3 := FP.out.c3
                have d4 := FP.out.c4
                go_simp
                refine hK.out _ _ (by (try dsimp only); first | exact mfl | go_keep) (fun hHeld => ?_)
                clear hK K
                try simp only [Act.put, List.getElem_toArray, List.getElem_cons_succ, List.getElem_cons_zero, List.setIfInBounds_toArray, List.set_cons_zero, List.set_cons_succ]
                refine wpAnyH_ready (rs := [3]) (by kernel_rfl) (by simp) ?_
                refine (AllReadyH.cons rfl (fun K hK => ?_) AllReadyH.nil)
                have d3 := FP.out.c3
                have d4 := FP.out.c4
                go_simp
                refine hK.out _ _ (by (try dsimp only); first | exact mfl | go_keep) (fun hHeld => ?_)
                clear hK K
                try simp only [Act.put, List.getElem_toArray, List.getElem_cons_succ, List.getElem_cons_zero, List.setIfInBounds_toArray, List.set_cons_zero, List.set_cons_succ]
                refine wpAnyH_ready (rs := [8]) (by kernel_rfl) (by simp) ?_
                refine (AllReadyH.cons rfl (fun K hK => ?_) AllReadyH.nil)
                go_simp
                refine (l7Out_lg lb _ _ _ _ FG.out).mono ?_
                rintro e v_49 ⟨rfl, hG, hb⟩
                have F0 : Hid (HAt v_49 w.heap.size h) := F0.out.below hb (by omega)
                have F4 : Hid (LW v_49 (w.heap.size + 1) 0 (.slice none 0 0)) := F4.out.below hb (by omega)
                have FG : Hid (LG v_49 lb) := hG
                have FS : Hid (SrcT v_49 sb B a len cap ((U + 10 + 1 + 1 + 1 + 1 + 1 + 1) + 1)) := FS.out.belowL hb (by omega)
                have FK : Hid (Keeps sb w v_49) := FK.out.belowL hb (by omega)
                clear hb hG
                have mfl := F0.out.c0
                try dsimp only
                refine hK.out _ _ (by (try dsimp only); first | exact mfl | go_keep) (fun hHeld => ?_)
                clear hK K
                try simp only [Act.put, List.getElem_toArray, List.getElem_cons_succ, List.getElem_cons_zero, List.setIfInBounds_toArray, List.set_cons_zero, List.set_cons_succ]
                refine wpAnyH_done (by kernel_rfl) ?_ _
                go_wp2_with fail
                go_roundw
                case rel => exact ⟨k, by simp, by omega, F0.out, F4.out, FG.out, FS.out.more (by omega), FK.out⟩
                case measure => simp [intOf]
              · have d3 := FP.out.c3
                have d4 := FP.out.c4
                go_simp
                refine hK.out _ _ (by (try dsimp only); first | exact mfl | go_keep) (fun hHeld => ?_)
                clear hK K
                try simp only [Act.put, List.getElem_toArray, List.getElem_cons_succ, List.getElem_cons_zero, List.setIfInBounds_toArray, List.set_cons_zero, List.set_cons_succ]
                refine wpAnyH_ready (rs := [1]) (by kernel_rfl) (by simp) ?_
                refine (AllReadyH.cons rfl (fun K hK => ?_) AllReadyH.nil)
                have d3 := FP.out.c3
                have d4 := FP.out.c4
                go_simp
                refine hK.out _ _ (by (try dsimp only); first | exact mfl | go_keep) (fun hHeld => ?_)
                clear hK K
                try simp only [Act.put, List.getElem_toArray, List.getElem_cons_succ, List.getElem_cons_zero, List.setIfInBounds_toArray, List.set_cons_zero, List.set_cons_succ]
                refine wpAnyH_ready (rs := [8]) (by kernel_rfl) (by simp) ?_
                refine (AllReadyH.cons rfl (fun K hK => ?_) AllReadyH.nil)
                go_simp
                refine (l7Out_lg lb _ _ _ _ FG.out).mono ?_
                rintro e v_50 ⟨rfl, hG, hb⟩
                have F0 : Hid (HAt v_50 w.heap.size h) := F0.out.below hb (by omega)
                have F4 : Hid (LW v_50 (w.heap.size + 1) 0 (.slice none 0 0)) := F4.out.below hb (by omega)
                have FG : Hid (LG v_50 lb) := hG
                have FS : Hid (SrcT v_50 sb B a len cap ((U + 10 + 1 + 1 + 1 + 1 + 1 + 1) + 1)) := FS.out.belowL hb (by omega)
                have FK : Hid (Keeps sb w v_50) := FK.out.belowL hb (by omega)
                clear hb hG
                have mfl := F0.out.c0
                try dsimp only
                refine hK.out _ _ (by (try dsimp only); first | exact mfl | go_keep) (fun hHeld => ?_)
                clear hK K
                try simp only [Act.put, List.getElem_toArray, List.getElem_cons_succ, List.getElem_cons_zero, List.setIfInBounds_toArray, List.set_cons_zero, List.set_cons_succ]
                refine wpAnyH_done (by kernel_rfl) ?_ _
                go_wp2_with fail
                go_roundw
                case rel => exact ⟨k, by simp, by omega, F0.out, F4.out, FG.out, FS.out.more (by omega), FK.out⟩
                case measure => simp [intOf]
end Go.Proofs.Ytoekhkolakielaa
