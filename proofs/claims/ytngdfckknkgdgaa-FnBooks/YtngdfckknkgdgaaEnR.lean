/-
  Books: a run, as the model keeps them.
-/
import Derived.Test.YtngdfckknkgdgaaEnC
import Derived.Test.YtngdfckknkgdgaaProfB
import Derived.Test.YtngdfckknkgdgaaProfA
import Derived.Test.YtngdfckknkgdgaaCarV
import Derived.Deep.DeepCutAuto
namespace Go.Proofs.Ytngdfckknkgdgaa
open Go.RowKit Pl
set_option linter.unusedSimpArgs false
set_option linter.unusedVariables false

theorem load_blkG {ops : Array Oper} {rest : List Oper} {o : Oper} {act : Act} {w : World} {Q : Exit → Act → World → Prop} {b : Nat} {vs : List Value} (T : TypeId) (x : Operand) {fs : Array Field} (hu : Try.prog.underlying T = some (.struct fs)) (hi : (Try.prog.info? T).map (·.size) = some vs.toArray.size) (hB : Blk w b vs)
    (hgd : Region.wanted o (yielded ops act.tmps) = true) (ho : o.op = .load T x) (hx : act.eval x = .pointer (some ⟨b, 0, none⟩)) (h : wpList Try.prog ops Q rest (act.put o.dst (.agg vs.toArray)) w) : wpList Try.prog ops Q (o :: rest) act w := by
  obtain ⟨T', h'⟩ := hB.o
  exact wpList_step fun K hK => by simp only [hgd, if_true]; exact wp_load_row T x ho b hx T' vs.toArray (0, 0) (.struct fs) h' hu rfl hi (hK _ _ h)
theorem load_midG {ops : Array Oper} {rest : List Oper} {op : Oper} {a : Act} {w : World} {Q : Exit → Act → World → Prop} {b : Nat} {vs : List Value} (T : TypeId) (x : Operand) (o : Nat) (cs : List Value) {fs : Array Field} (hu : Try.prog.underlying T = some (.struct fs)) (hi : (Try.prog.info? T).map (·.size) = some cs.length) (hB : Blk w b vs) (hc : (vs.drop o).take cs.length = cs)
    (hgd : Region.wanted op (yielded ops a.tmps) = true) (ho : op.op = .load T x) (hx : a.eval x = .pointer (some ⟨b, o, none⟩)) (h : wpList Try.prog ops Q rest (a.put op.dst (.agg cs.toArray)) w) : wpList Try.prog ops Q (op :: rest) a w := by
  exact wpList_step fun K hK => by simp only [hgd, if_true]; exact wp_load_mid T x ho b o hx cs (.struct fs) (hB.mid o cs hc) hu rfl hi (hK _ _ h)
set_option maxRecDepth 20000 in
set_option maxHeartbeats 32000000 in
theorem specBookRun_any (h : Hs) (c : Cs) (f r t : Int) (w : World) :
    Calls Try.prog 25 #[.agg #[.int .i64 h.fl, .int .i64 h.gp, .int .i64 h.ln, .int .i64 h.rf, .int .i64 h.sp, .int .i64 h.pu, .int .i64 h.br, .int .i64 h.dr, .int .i64 h.lv, .int .i64 h.dO, .int .i64 h.ld, .int .i64 h.qu], .agg #[.int .i64 c.pos, .int .i64 c.vel, .int .i64 c.door], .int .i64 f, .int .i64 r, .int .i64 t] w (isBk w (Hs.bkV h c f r t)) := by
  obtain ⟨R, hR⟩ : ∃ R, Hs.bkV h c f r t = R := ⟨_, rfl⟩
  rw [hR]
  have HR : Hid (Hs.bkV h c f r t = R) := hR
  obtain ⟨ka, hka⟩ : ∃ ka, Hs.askK h c r = ka := ⟨_, rfl⟩
  have HA : Hid (Hs.askK h c r = ka) := hka
  clear hR hka
  obtain ⟨b0, hb0⟩ : ∃ b0, b0 = w.heap.size := ⟨_, rfl⟩
  obtain ⟨b1, hb1⟩ : ∃ b1, b1 = b0 + 1 := ⟨_, rfl⟩
  obtain ⟨b3, hb3⟩ : ∃ b3, b3 = b1 + 1 := ⟨_, rfl⟩
  obtain ⟨W0, hW0⟩ : ∃ W0, W0 = ((w.alloc (.cells #[.int .i64 h.fl, .int .i64 h.gp, .int .i64 h.ln, .int .i64 h.rf, .int .i64 h.sp, .int .i64 h.pu, .int .i64 h.br, .int .i64 h.dr, .int .i64 h.lv, .int .i64 h.dO, .int .i64 h.ld, .int .i64 h.qu] 27)).alloc (.cells #[.int .i64 c.pos, .int .i64 c.vel, .int .i64 c.door] 34)).alloc (.cells #[.int .i64 0, .int .i64 0, .int .i64 0, .int .i64 0, .int .i64 0, .int .i64 0, .int .i64 0] 40) := ⟨_, rfl⟩
  have F0 : Hid (Blk W0 b0 [.int .i64 h.fl, .int .i64 h.gp, .int .i64 h.ln, .int .i64 h.rf, .int .i64 h.sp, .int .i64 h.pu, .int .i64 h.br, .int .i64 h.dr, .int .i64 h.lv, .int .i64 h.dO, .int .i64 h.ld, .int .i64 h.qu]) := by rw [hW0]; exact (((Blk.at_ _ #[.int .i64 h.fl, .int .i64 h.gp, .int .i64 h.ln, .int .i64 h.rf, .int .i64 h.sp, .int .i64 h.pu, .int .i64 h.br, .int .i64 h.dr, .int .i64 h.lv, .int .i64 h.dO, .int .i64 h.ld, .int .i64 h.qu] _ _ hb0).alloc _).alloc _)
  have F1 : Hid (Blk W0 b1 [.int .i64 c.pos, .int .i64 c.vel, .int .i64 c.door]) := by rw [hW0]; exact ((Blk.at_ _ #[.int .i64 c.pos, .int .i64 c.vel, .int .i64 c.door] _ _ (by simp; omega)).alloc _)
  have F3 : Hid (Blk W0 b3 [.int .i64 0, .int .i64 0, .int .i64 0, .int .i64 0, .int .i64 0, .int .i64 0, .int .i64 0]) := by rw [hW0]; exact (Blk.at_ _ #[.int .i64 0, .int .i64 0, .int .i64 0, .int .i64 0, .int .i64 0, .int .i64 0, .int .i64 0] _ _ (by simp; omega))
  have FB : Hid (Below w.heap.size w W0) := by rw [hW0]; exact ((((Below.refl _ _).alloc (Nat.le_refl _) _).alloc (by simp) _).alloc (by simp; omega) _)
  have leb0 : w.heap.size ≤ b0 := by omega
  have leb1 : w.heap.size ≤ b1 := by omega
  have leb3 : w.heap.size ≤ b3 := by omega
  have l01 : b0 < b1 := by omega
  have l12 : b1 < b3 := by omega
  go_enter Try.func25, Try.ntmps25
  go_upto_region 1 with fail
  rw [← hb0, ← hb1, ← hb3, ← hW0]
  clear hb0 hb1 hb3 hW0
  go_upto_region 2 with (first | (refine load_blk 27 _ Try.underlying27 (by kernel_rfl) F0.out rfl rfl rfl ?_) | (refine load_blk 34 _ Try.underlying34 (by kernel_rfl) F1.out rfl rfl rfl ?_) | (go_at_call 34; refine (l13Asked_any h c r _).mono ?_; rw [HA.out]; rintro e w1 ⟨rfl, hb⟩; have F0 : Hid (Blk w1 b0 [.int .i64 h.fl, .int .i64 h.gp, .int .i64 h.ln, .int .i64 h.rf, .int .i64 h.sp, .int .i64 h.pu, .int .i64 h.br, .int .i64 h.dr, .int .i64 h.lv, .int .i64 h.dO, .int .i64 h.ld, .int .i64 h.qu]) := F0.out.below hb F0.out.lt; have F1 : Hid (Blk w1 b1 [.int .i64 c.pos, .int .i64 c.vel, .int .i64 c.door]) := F1.out.below hb F1.out.lt; have F3 : Hid (Blk w1 b3 [.int .i64 0, .int .i64 0, .int .i64 0, .int .i64 0, .int .i64 0, .int .i64 0, .int .i64 0]) := F3.out.below hb F3.out.lt; have FB : Hid (Below w.heap.size w w1) := FB.out.trans (hb.mono FB.out.size); clear hb))
  have c00 := F0.out.c 0 _ rfl
  by_cases hz : ka = 0
  case neg =>
    have hn : (ka != 0) = true := by simpa using hz
    have ER : Hid (Bks.bad ka = R) := by show _ = R; rw [← HR.out]; unfold Hs.bkV; rw [HA.out, if_neg hz]
    go_wp2_with (refine store_blk [.int .i64 ka, .int .i64 0, .int .i64 0, .int .i64 0, .int .i64 0, .int .i64 0, .int .i64 0] 40 _ _ (by kernel_rfl) (by kernel_rfl) (by kernel_rfl) F3.out rfl rfl rfl rfl ?_)
    exact bodyPost_ret (v := .agg #[.int .i64 ka, .int .i64 0, .int .i64 0, .int .i64 0, .int .i64 0, .int .i64 0, .int .i64 0]) ((F3.out.row [.int .i64 ka, .int .i64 0, .int .i64 0, .int .i64 0, .int .i64 0, .int .i64 0, .int .i64 0]).res _ Try.results25 Try.underlying40 (by kernel_rfl) rfl) rfl ⟨ret_bk (R := Bks.bad ka) ER.out, below_row FB.out leb3 _⟩
  case pos =>
  subst hz
  cases hf : inB f (-1) h.fl with
  | false =>
    have ER : Hid (Bks.bad 3 = R) := by show _ = R; rw [← HR.out]; unfold Hs.bkV; rw [HA.out, if_pos rfl, if_neg (by rw [hf]; simp)]
    go_wp2_with (first | (go_at_call 30; (fail_if_success have := GF); refine (l1In_any f (-1) h.fl _).mono ?_; rw [hf]; rintro e w' ⟨rfl, hw⟩; obtain rfl := hw.symm; clear hw; have GF := trivial) | (refine store_blk [.int .i64 3, .int .i64 0, .int .i64 0, .int .i64 0, .int .i64 0, .int .i64 0, .int .i64 0] 40 _ _ (by kernel_rfl) (by kernel_rfl) (by kernel_rfl) F3.out rfl rfl rfl rfl ?_))
    exact bodyPost_ret (v := .agg #[.int .i64 3, .int .i64 0, .int .i64 0, .int .i64 0, .int .i64 0, .int .i64 0, .int .i64 0]) ((F3.out.row [.int .i64 3, .int .i64 0, .int .i64 0, .int .i64 0, .int .i64 0, .int .i64 0, .int .i64 0]).res _ Try.results25 Try.underlying40 (by kernel_rfl) rfl) rfl ⟨ret_bk (R := Bks.bad 3) ER.out, below_row FB.out leb3 _⟩
  | true =>
    cases ht : inB t 0 3000 with
    | false =>
      have ER : Hid (Bks.bad 3 = R) := by show _ = R; rw [← HR.out]; unfold Hs.bkV; rw [HA.out, if_pos rfl, if_neg (by rw [ht]; simp)]
      go_wp2_with (first | (go_at_call 30; (fail_if_success have := GF); refine (l1In_any f (-1) h.fl _).mono ?_; rw [hf]; rintro e w' ⟨rfl, hw⟩; obtain rfl := hw.symm; clear hw; have GF := trivial) | (go_at_call 30; refine (l1In_any t 0 3000 _).mono ?_; rw [ht]; rintro e w' ⟨rfl, hw⟩; obtain rfl := hw.symm; clear hw) | (refine store_blk [.int .i64 3, .int .i64 0, .int .i64 0, .int .i64 0, .int .i64 0, .int .i64 0, .int .i64 0] 40 _ _ (by kernel_rfl) (by kernel_rfl) (by kernel_rfl) F3.out rfl rfl rfl rfl ?_))
      exact bodyPost_ret (v := .agg #[.int .i64 3, .int .i64 0, .int .i64 0, .int .i64 0, .int .i64 0, .int .i64 0, .int .i64 0]) ((F3.out.row [.int .i64 3, .int .i64 0, .int .i64 0, .int .i64 0, .int .i64 0, .int .i64 0, .int .i64 0]).res _ Try.results25 Try.underlying40 (by kernel_rfl) rfl) rfl ⟨ret_bk (R := Bks.bad 3) ER.out, below_row FB.out leb3 _⟩
    | true =>
      have c12 := F1.out.c 2 _ rfl
      by_cases dz : c.door = 0
      case neg =>
        have hn : (c.door != 0) = true := by simpa using dz
        have ER : Hid (Bks.bad 1 = R) := by show _ = R; rw [← HR.out]; unfold Hs.bkV; rw [HA.out, if_pos rfl, if_pos ⟨hf, ht⟩, if_neg dz]
        go_wp2_with (first | (go_at_call 30; (fail_if_success have := GF); refine (l1In_any f (-1) h.fl _).mono ?_; rw [hf]; rintro e w' ⟨rfl, hw⟩; obtain rfl := hw.symm; clear hw; have GF := trivial) | (go_at_call 30; refine (l1In_any t 0 3000 _).mono ?_; rw [ht]; rintro e w' ⟨rfl, hw⟩; obtain rfl := hw.symm; clear hw) | (refine store_blk [.int .i64 1, .int .i64 0, .int .i64 0, .int .i64 0, .int .i64 0, .int .i64 0, .int .i64 0] 40 _ _ (by kernel_rfl) (by kernel_rfl) (by kernel_rfl) F3.out rfl rfl rfl rfl ?_))
        exact bodyPost_ret (v := .agg #[.int .i64 1, .int .i64 0, .int .i64 0, .int .i64 0, .int .i64 0, .int .i64 0, .int .i64 0]) ((F3.out.row [.int .i64 1, .int .i64 0, .int .i64 0, .int .i64 0, .int .i64 0, .int .i64 0, .int .i64 0]).res _ Try.results25 Try.underlying40 (by kernel_rfl) rfl) rfl ⟨ret_bk (R := Bks.bad 1) ER.out, below_row FB.out leb3 _⟩
      case pos =>
      have dn : (c.door != 0) = false := by simpa using dz
      have ER : Hid (Hs.bkR h f r t.toNat c Bk.no = R) := by show _ = R; rw [← HR.out]; unfold Hs.bkV; rw [HA.out, if_pos rfl, if_pos ⟨hf, ht⟩, if_pos dz]
      have az := Hs.ask_zero HA.out
      have HK0 : Hid (CarOk h c) := Hs.car_zero az.1
      have HO : Hid h.Ok := HK0.out.ok
      have HFz : Hid (h.fault = 0) := HK0.out.hf
      have HD0 : Hid (c.door = 0) := dz
      have f1 := (inB_iff.1 hf).1
      have f2 : f ≤ 12 := by have a := (inB_iff.1 hf).2; have b := HO.out.fl2; omega
      have t1 := (inB_iff.1 ht).1
      have t2 := (inB_iff.1 ht).2
      have r1 := az.2.1
      have r2 := az.2.2
      have dr0 : -h.dr ≤ 0 := by have := HO.out.dr1; omega
      have dr1 : 0 ≤ h.dr := HO.out.dr1
      clear az dz HR HA
      go_upto_region 9 with (first | (go_at_call 30; (fail_if_success have := GF); refine (l1In_any f (-1) h.fl _).mono ?_; rw [hf]; rintro e w' ⟨rfl, hw⟩; obtain rfl := hw.symm; clear hw; have GF := trivial) | (go_at_call 30; refine (l1In_any t 0 3000 _).mono ?_; rw [ht]; rintro e w' ⟨rfl, hw⟩; obtain rfl := hw.symm; clear hw) | (refine load_blk 34 _ Try.underlying34 (by kernel_rfl) F1.out rfl rfl rfl ?_) | (refine store_new [.int .i64 0, .int .i64 0, .int .i64 0, .int .i64 0, .int .i64 c.pos, .int .i64 c.vel, .int .i64 c.door] 40 _ _ (by kernel_rfl) (by kernel_rfl) (by kernel_rfl) rfl rfl rfl rfl ?_))
      have FB0 := FB
      obtain ⟨b4, hbb⟩ : ∃ b4, b4 = w1.heap.size := ⟨_, rfl⟩
      obtain ⟨w2, hw2⟩ : ∃ w2, w2 = w1.alloc (.cells #[.int .i64 0, .int .i64 0, .int .i64 0, .int .i64 0, .int .i64 c.pos, .int .i64 c.vel, .int .i64 c.door] 40) := ⟨_, rfl⟩
      have nb4b0 : b0 < b4 := by rw [hbb]; exact F0.out.lt
      have nb4b1 : b1 < b4 := by rw [hbb]; exact F1.out.lt
      have nb4b3 : b3 < b4 := by rw [hbb]; exact F3.out.lt
      have F0 : Hid (Blk w2 b0 [.int .i64 h.fl, .int .i64 h.gp, .int .i64 h.ln, .int .i64 h.rf, .int .i64 h.sp, .int .i64 h.pu, .int .i64 h.br, .int .i64 h.dr, .int .i64 h.lv, .int .i64 h.dO, .int .i64 h.ld, .int .i64 h.qu]) := by rw [hw2]; exact F0.out.alloc _
      have F1 : Hid (Blk w2 b1 [.int .i64 c.pos, .int .i64 c.vel, .int .i64 c.door]) := by rw [hw2]; exact F1.out.alloc _
      have F3 : Hid (Blk w2 b3 [.int .i64 0, .int .i64 0, .int .i64 0, .int .i64 0, .int .i64 0, .int .i64 0, .int .i64 0]) := by rw [hw2]; exact F3.out.alloc _
      have F4 : Hid (Blk w2 b4 [.int .i64 0, .int .i64 0, .int .i64 0, .int .i64 0, .int .i64 c.pos, .int .i64 c.vel, .int .i64 c.door]) := by rw [hw2]; exact Blk.at_ w1 #[.int .i64 0, .int .i64 0, .int .i64 0, .int .i64 0, .int .i64 c.pos, .int .i64 c.vel, .int .i64 c.door] _ _ hbb
      have FB : Hid (Below w.heap.size w w2) := by rw [hw2]; exact FB.out.alloc FB.out.size _
      have leb4 : w.heap.size ≤ b4 := by rw [hbb]; exact FB0.out.size
      rw [← hw2, ← hbb]
      clear hbb hw2 FB0
      go_wp2_with fail
      go_loopw [13] (fun nn wr => ∃ (n : Int) (g : Cs) (q : Bk), nn = .int .i64 n ∧ 0 ≤ n ∧ n ≤ t ∧ (0 ≤ q.i ∧ q.i ≤ n * 1000000000000) ∧ (0 ≤ q.o ∧ q.o ≤ n * 1000000000000) ∧ (0 ≤ q.l ∧ q.l ≤ n * 1000000000000) ∧ CarOk h g ∧ g.door = 0 ∧ Hs.bkR h f r (t - n).toNat g q = R ∧ Blk wr b0 [.int .i64 h.fl, .int .i64 h.gp, .int .i64 h.ln, .int .i64 h.rf, .int .i64 h.sp, .int .i64 h.pu, .int .i64 h.br, .int .i64 h.dr, .int .i64 h.lv, .int .i64 h.dO, .int .i64 h.ld, .int .i64 h.qu] ∧ Blk wr b1 [.int .i64 c.pos, .int .i64 c.vel, .int .i64 c.door] ∧ Blk wr b3 [.int .i64 0, .int .i64 0, .int .i64 0, .int .i64 0, .int .i64 0, .int .i64 0, .int .i64 0] ∧ Blk wr b4 [.int .i64 0, .int .i64 q.i, .int .i64 q.o, .int .i64 q.l, .int .i64 g.pos, .int .i64 g.vel, .int .i64 g.door] ∧ Below w.heap.size w wr) (fun nn _ => (t - intOf nn).toNat)
      case atStart => exact ⟨0, c, Bk.no, rfl, Int.le_refl _, t1, ⟨Int.le_refl _, Int.le_refl _⟩, ⟨Int.le_refl _, Int.le_refl _⟩, ⟨Int.le_refl _, Int.le_refl _⟩, HK0.out, HD0.out, by rw [Int.sub_zero]; exact ER.out, F0.out, F1.out, F3.out, F4.out, FB.out⟩
      case round =>
        obtain ⟨n, g, q, rfl, n1, n2, qi, qo, ql, hok, hdz, hq, h_F0, h_F1, h_F3, h_F4, hB⟩ := hrel
        clear F0 F1 F3 F4 FB
        have F0 : Hid (Blk wr b0 [.int .i64 h.fl, .int .i64 h.gp, .int .i64 h.ln, .int .i64 h.rf, .int .i64 h.sp, .int .i64 h.pu, .int .i64 h.br, .int .i64 h.dr, .int .i64 h.lv, .int .i64 h.dO, .int .i64 h.ld, .int .i64 h.qu]) := h_F0
        have F1 : Hid (Blk wr b1 [.int .i64 c.pos, .int .i64 c.vel, .int .i64 c.door]) := h_F1
        have F3 : Hid (Blk wr b3 [.int .i64 0, .int .i64 0, .int .i64 0, .int .i64 0, .int .i64 0, .int .i64 0, .int .i64 0]) := h_F3
        have F4 : Hid (Blk wr b4 [.int .i64 0, .int .i64 q.i, .int .i64 q.o, .int .i64 q.l, .int .i64 g.pos, .int .i64 g.vel, .int .i64 g.door]) := h_F4
        have FB : Hid (Below w.heap.size w wr) := hB
        clear h_F0 h_F1 h_F3 h_F4 hB
        have HK : Hid (CarOk h g) := hok
        have gp := (nr_of hok).pos HO.out
        have gv1 := (nr_of hok).v1
        have gv2 := (nr_of hok).v2
        clear HK0 HD0 ER
        have CL : ∀ W, Calls Try.prog 52 #[.agg #[.int .i64 h.fl, .int .i64 h.gp, .int .i64 h.ln, .int .i64 h.rf, .int .i64 h.sp, .int .i64 h.pu, .int .i64 h.br, .int .i64 h.dr, .int .i64 h.lv, .int .i64 h.dO, .int .i64 h.ld, .int .i64 h.qu], .agg #[.int .i64 g.pos, .int .i64 g.vel, .int .i64 g.door], .int .i64 f] W fun e w' => e = .returned (.bool (Hs.reachB h g f)) ∧ Below W.heap.size W w' := fun W => l4Reached_any h HO.out g f f1 f2 (by omega) (by omega) W
        have ldm := True.intro
        by_cases hlt : n < t
        · cases hr : Hs.reachB h g f with
          | true =>
            have ER : Hid ((⟨0, q, g⟩ : Bks) = R) := by rw [← hq]; exact (bkR_stop hr).symm
            rw [hr] at CL
            clear hq hok hdz hr
            go_wp2_with (first | (refine load_blkG 27 _ Try.underlying27 (by kernel_rfl) F0.out (by kernel_rfl) rfl rfl ?_) | (refine load_midG 34 _ 4 [.int .i64 g.pos, .int .i64 g.vel, .int .i64 g.door] Try.underlying34 (by kernel_rfl) F4.out rfl (by kernel_rfl) rfl rfl ?_) | (go_at_call 52; refine (CL _).mono ?_; rintro e w3 ⟨rfl, hb⟩; have F0 : Hid (Blk w3 b0 [.int .i64 h.fl, .int .i64 h.gp, .int .i64 h.ln, .int .i64 h.rf, .int .i64 h.sp, .int .i64 h.pu, .int .i64 h.br, .int .i64 h.dr, .int .i64 h.lv, .int .i64 h.dO, .int .i64 h.ld, .int .i64 h.qu]) := F0.out.below hb F0.out.lt; have F1 : Hid (Blk w3 b1 [.int .i64 c.pos, .int .i64 c.vel, .int .i64 c.door]) := F1.out.below hb F1.out.lt; have F3 : Hid (Blk w3 b3 [.int .i64 0, .int .i64 0, .int .i64 0, .int .i64 0, .int .i64 0, .int .i64 0, .int .i64 0]) := F3.out.below hb F3.out.lt; have F4 : Hid (Blk w3 b4 [.int .i64 0, .int .i64 q.i, .int .i64 q.o, .int .i64 q.l, .int .i64 g.pos, .int .i64 g.vel, .int .i64 g.door]) := F4.out.below hb F4.out.lt; have FB : Hid (Below w.heap.size w w3) := FB.out.trans (hb.mono FB.out.size); clear hb) | (refine load_blk 40 _ Try.underlying40 (by kernel_rfl) F4.out rfl rfl rfl ?_) | (refine store_blk [.int .i64 0, .int .i64 q.i, .int .i64 q.o, .int .i64 q.l, .int .i64 g.pos, .int .i64 g.vel, .int .i64 g.door] 40 _ _ (by kernel_rfl) (by kernel_rfl) (by kernel_rfl) F3.out rfl rfl rfl rfl ?_))
            exact bodyPost_ret (v := .agg #[.int .i64 0, .int .i64 q.i, .int .i64 q.o, .int .i64 q.l, .int .i64 g.pos, .int .i64 g.vel, .int .i64 g.door]) ((F3.out.row [.int .i64 0, .int .i64 q.i, .int .i64 q.o, .int .i64 q.l, .int .i64 g.pos, .int .i64 g.vel, .int .i64 g.door]).res _ Try.results25 Try.underlying40 (by kernel_rfl) rfl) rfl ⟨ret_bk (R := ⟨0, q, g⟩) ER.out, below_row FB.out leb3 _⟩
          | false =>
            rw [hr] at CL
            have fp := forC_push HO.out g f
            obtain ⟨x, hx⟩ : ∃ x, Hs.forC h g f = x := ⟨_, rfl⟩
            rw [hx] at fp
            obtain ⟨T, hT⟩ : ∃ T, Hs.bkT h g x 0 r = T := ⟨_, rfl⟩
            have CX : ∀ W, Calls Try.prog 53 #[.agg #[.int .i64 h.fl, .int .i64 h.gp, .int .i64 h.ln, .int .i64 h.rf, .int .i64 h.sp, .int .i64 h.pu, .int .i64 h.br, .int .i64 h.dr, .int .i64 h.lv, .int .i64 h.dO, .int .i64 h.ld, .int .i64 h.qu], .agg #[.int .i64 g.pos, .int .i64 g.vel, .int .i64 g.door], .int .i64 f] W (isCmd W x) := fun W => l4For_any h HO.out g f f1 f2 (by omega) (by omega) gv1 gv2 x hx W
            have CS : ∀ W, Calls Try.prog 43 #[.agg #[.int .i64 h.fl, .int .i64 h.gp, .int .i64 h.ln, .int .i64 h.rf, .int .i64 h.sp, .int .i64 h.pu, .int .i64 h.br, .int .i64 h.dr, .int .i64 h.lv, .int .i64 h.dO, .int .i64 h.ld, .int .i64 h.qu], .agg #[.int .i64 g.pos, .int .i64 g.vel, .int .i64 g.door], .agg #[.int .i64 x.push, .bool x.brk, .bool x.opn], .int .i64 0, .int .i64 r] W (isBk W T) := fun W => l13Step_any h g x 0 r hok fp.1 fp.2 dr0 dr1 r1 r2 T hT W
            have bb := bkS_bd (x := x) (d := 0) hok r1 r2
            have HT : Hid ((h.carC (stepC h g x 0) = 0 ∧ T = ⟨0, Hs.bkS h g x 0 r, stepC h g x 0⟩ ∧ R = Hs.bkR h f r (t - (n + 1)).toNat (stepC h g x 0) (q.add (Hs.bkS h g x 0 r)) ∧ (stepC h g x 0).door = 0) ∨ (T = Bks.bad 3 ∧ R = Bks.bad 3)) := by
              have et : (t - n).toNat = (t - (n + 1)).toNat + 1 := by omega
              have d2 := step_door (h := h) (f := f) hdz
              rw [hx] at d2
              rw [et] at hq
              unfold Hs.bkT at hT
              by_cases hc : h.carC (stepC h g x 0) = 0
              · rw [if_pos hc] at hT
                refine Or.inl ⟨hc, hT.symm, ?_, d2⟩
                rw [← hq, bkR_go hr (by rw [hx]; exact hc), hx]
              · rw [if_neg hc] at hT
                refine Or.inr ⟨hT.symm, ?_⟩
                rw [← hq]
                exact bkR_bad hr (by rw [hx]; exact hc)
            obtain ⟨g2, hg2⟩ : ∃ g2, stepC h g x 0 = g2 := ⟨_, rfl⟩
            obtain ⟨s2, hs2⟩ : ∃ s2, Hs.bkS h g x 0 r = s2 := ⟨_, rfl⟩
            rw [hg2, hs2] at HT
            rw [hs2] at bb
            clear hq hok hdz hr hx fp hT hg2 hs2
            go_upto_region 12 with (first | (refine load_blkG 27 _ Try.underlying27 (by kernel_rfl) F0.out (by kernel_rfl) rfl rfl ?_) | (refine load_midG 34 _ 4 [.int .i64 g.pos, .int .i64 g.vel, .int .i64 g.door] Try.underlying34 (by kernel_rfl) F4.out rfl (by kernel_rfl) rfl rfl ?_) | (go_at_call 52; refine (CL _).mono ?_; rintro e w3 ⟨rfl, hb⟩; have F0 : Hid (Blk w3 b0 [.int .i64 h.fl, .int .i64 h.gp, .int .i64 h.ln, .int .i64 h.rf, .int .i64 h.sp, .int .i64 h.pu, .int .i64 h.br, .int .i64 h.dr, .int .i64 h.lv, .int .i64 h.dO, .int .i64 h.ld, .int .i64 h.qu]) := F0.out.below hb F0.out.lt; have F1 : Hid (Blk w3 b1 [.int .i64 c.pos, .int .i64 c.vel, .int .i64 c.door]) := F1.out.below hb F1.out.lt; have F3 : Hid (Blk w3 b3 [.int .i64 0, .int .i64 0, .int .i64 0, .int .i64 0, .int .i64 0, .int .i64 0, .int .i64 0]) := F3.out.below hb F3.out.lt; have F4 : Hid (Blk w3 b4 [.int .i64 0, .int .i64 q.i, .int .i64 q.o, .int .i64 q.l, .int .i64 g.pos, .int .i64 g.vel, .int .i64 g.door]) := F4.out.below hb F4.out.lt; have FB : Hid (Below w.heap.size w w3) := FB.out.trans (hb.mono FB.out.size); clear hb))
            go_cut [14] from 40 to 89 (fun p wx => ∃ b5, p = .pointer (some ⟨b5, 0, none⟩) ∧ b4 < b5 ∧ Blk wx b5 [.int .i64 T.k, .int .i64 T.b.i, .int .i64 T.b.o, .int .i64 T.b.l, .int .i64 T.c.pos, .int .i64 T.c.vel, .int .i64 T.c.door] ∧ Blk wx b0 [.int .i64 h.fl, .int .i64 h.gp, .int .i64 h.ln, .int .i64 h.rf, .int .i64 h.sp, .int .i64 h.pu, .int .i64 h.br, .int .i64 h.dr, .int .i64 h.lv, .int .i64 h.dO, .int .i64 h.ld, .int .i64 h.qu] ∧ Blk wx b1 [.int .i64 c.pos, .int .i64 c.vel, .int .i64 c.door] ∧ Blk wx b3 [.int .i64 0, .int .i64 0, .int .i64 0, .int .i64 0, .int .i64 0, .int .i64 0, .int .i64 0] ∧ Blk wx b4 [.int .i64 0, .int .i64 q.i, .int .i64 q.o, .int .i64 q.l, .int .i64 g.pos, .int .i64 g.vel, .int .i64 g.door] ∧ Below w.heap.size w wx)
            case first =>
              have F0 : Hid (Blk w3.drew b0 [.int .i64 h.fl, .int .i64 h.gp, .int .i64 h.ln, .int .i64 h.rf, .int .i64 h.sp, .int .i64 h.pu, .int .i64 h.br, .int .i64 h.dr, .int .i64 h.lv, .int .i64 h.dO, .int .i64 h.ld, .int .i64 h.qu]) := F0.out.below (Below.refl _ _).drew F0.out.lt
              have F1 : Hid (Blk w3.drew b1 [.int .i64 c.pos, .int .i64 c.vel, .int .i64 c.door]) := F1.out.below (Below.refl _ _).drew F1.out.lt
              have F3 : Hid (Blk w3.drew b3 [.int .i64 0, .int .i64 0, .int .i64 0, .int .i64 0, .int .i64 0, .int .i64 0, .int .i64 0]) := F3.out.below (Below.refl _ _).drew F3.out.lt
              have F4 : Hid (Blk w3.drew b4 [.int .i64 0, .int .i64 q.i, .int .i64 q.o, .int .i64 q.l, .int .i64 g.pos, .int .i64 g.vel, .int .i64 g.door]) := F4.out.below (Below.refl _ _).drew F4.out.lt
              have FB : Hid (Below w.heap.size w w3.drew) := FB.out.drew
              refine wp_region_held_drew (S := (fun w'' => Blk w'' b0 ([.int .i64 h.fl, .int .i64 h.gp, .int .i64 h.ln, .int .i64 h.rf, .int .i64 h.sp, .int .i64 h.pu, .int .i64 h.br, .int .i64 h.dr, .int .i64 h.lv, .int .i64 h.dO, .int .i64 h.ld, .int .i64 h.qu]) ∧ Blk w'' b4 ([.int .i64 0, .int .i64 q.i, .int .i64 q.o, .int .i64 q.l, .int .i64 g.pos, .int .i64 g.vel, .int .i64 g.door]))) (by kernel_rfl) (by (try dsimp only); first | exact ⟨F0.out, F4.out⟩ | go_keep) (fun hHeld => ?_)
              obtain ⟨v_1, hw1⟩ : ∃ v_1, v_1 = w3.drew := ⟨_, rfl⟩
              have F0 : Hid (Blk v_1 b0 [.int .i64 h.fl, .int .i64 h.gp, .int .i64 h.ln, .int .i64 h.rf, .int .i64 h.sp, .int .i64 h.pu, .int .i64 h.br, .int .i64 h.dr, .int .i64 h.lv, .int .i64 h.dO, .int .i64 h.ld, .int .i64 h.qu]) := by rw [hw1]; exact F0.out
              have F1 : Hid (Blk v_1 b1 [.int .i64 c.pos, .int .i64 c.vel, .int .i64 c.door]) := by rw [hw1]; exact F1.out
              have F3 : Hid (Blk v_1 b3 [.int .i64 0, .int .i64 0, .int .i64 0, .int .i64 0, .int .i64 0, .int .i64 0, .int .i64 0]) := by rw [hw1]; exact F3.out
              have F4 : Hid (Blk v_1 b4 [.int .i64 0, .int .i64 q.i, .int .i64 q.o, .int .i64 q.l, .int .i64 g.pos, .int .i64 g.vel, .int .i64 g.door]) := by rw [hw1]; exact F4.out
              have FB : Hid (Below w.heap.size w v_1) := by rw [hw1]; exact FB.out
              rw [← hw1] at hHeld ⊢
              clear hw1
              refine tkz 0 rfl ?_ (hy := Or.inl ⟨by kernel_rfl, fun wx hSw => exec_load_blk 27 _ Try.underlying27 (by kernel_rfl) rfl rfl hSw.1⟩)
              refine tkz 1 rfl ?_
              refine tkz 2 rfl ?_ (hy := Or.inl ⟨by kernel_rfl, fun wx hSw => exec_load_mid 34 _ 4 [.int .i64 g.pos, .int .i64 g.vel, .int .i64 g.door] Try.underlying34 (by kernel_rfl) rfl rfl rfl hSw.2⟩)
              refine tkz 3 rfl ?_ (hy := Or.inl ⟨by kernel_rfl, fun wx hSw => exec_load_blk 27 _ Try.underlying27 (by kernel_rfl) rfl rfl hSw.1⟩)
              refine tkz 4 rfl ?_
              refine tkz 5 rfl ?_ (hy := Or.inl ⟨by kernel_rfl, fun wx hSw => exec_load_mid 34 _ 4 [.int .i64 g.pos, .int .i64 g.vel, .int .i64 g.door] Try.underlying34 (by kernel_rfl) rfl rfl rfl hSw.2⟩)
              refine tkz 6 rfl ?_
              refine tkz 8 rfl ?_
              refine wpAnyH_ready (rs := [7, 10]) (by kernel_rfl) (by simp) ?_
              refine (AllReadyH.cons rfl (fun K hK => ?_) (AllReadyH.cons rfl (fun K hK => ?_) AllReadyH.nil))
              · go_simp
                refine (CX _).mono ?_
                rintro e v_2 ⟨rfl, hb⟩
                have F0 : Hid (Blk v_2 b0 [.int .i64 h.fl, .int .i64 h.gp, .int .i64 h.ln, .int .i64 h.rf, .int .i64 h.sp, .int .i64 h.pu, .int .i64 h.br, .int .i64 h.dr, .int .i64 h.lv, .int .i64 h.dO, .int .i64 h.ld, .int .i64 h.qu]) := F0.out.below hb F0.out.lt
                have F1 : Hid (Blk v_2 b1 [.int .i64 c.pos, .int .i64 c.vel, .int .i64 c.door]) := F1.out.below hb F1.out.lt
                have F3 : Hid (Blk v_2 b3 [.int .i64 0, .int .i64 0, .int .i64 0, .int .i64 0, .int .i64 0, .int .i64 0, .int .i64 0]) := F3.out.below hb F3.out.lt
                have F4 : Hid (Blk v_2 b4 [.int .i64 0, .int .i64 q.i, .int .i64 q.o, .int .i64 q.l, .int .i64 g.pos, .int .i64 g.vel, .int .i64 g.door]) := F4.out.below hb F4.out.lt
                have FB : Hid (Below w.heap.size w v_2) := FB.out.trans (hb.mono FB.out.size)
                clear hb
                try dsimp only
                refine hK.out _ _ (by (try dsimp only); first | exact ⟨F0.out, F4.out⟩ | go_keep) (fun hHeld => ?_)
                clear hK K
                try simp only [Act.put, List.getElem_toArray, List.getElem_cons_succ, List.getElem_cons_zero, List.setIfInBounds_toArray, List.set_cons_zero, List.set_cons_succ]
                refine wpAnyH_ready (rs := [9, 10]) (by kernel_rfl) (by simp) ?_
                refine (AllReadyH.cons rfl (fun K hK => ?_) (AllReadyH.cons rfl (fun K hK => ?_) AllReadyH.nil))
                · go_simp
                  refine (CS _).mono ?_
                  rintro e v_3 ⟨rfl, hb⟩
                  have F0 : Hid (Blk v_3 b0 [.int .i64 h.fl, .int .i64 h.gp, .int .i64 h.ln, .int .i64 h.rf, .int .i64 h.sp, .int .i64 h.pu, .int .i64 h.br, .int .i64 h.dr, .int .i64 h.lv, .int .i64 h.dO, .int .i64 h.ld, .int .i64 h.qu]) := F0.out.below hb F0.out.lt
                  have F1 : Hid (Blk v_3 b1 [.int .i64 c.pos, .int .i64 c.vel, .int .i64 c.door]) := F1.out.below hb F1.out.lt
                  have F3 : Hid (Blk v_3 b3 [.int .i64 0, .int .i64 0, .int .i64 0, .int .i64 0, .int .i64 0, .int .i64 0, .int .i64 0]) := F3.out.below hb F3.out.lt
                  have F4 : Hid (Blk v_3 b4 [.int .i64 0, .int .i64 q.i, .int .i64 q.o, .int .i64 q.l, .int .i64 g.pos, .int .i64 g.vel, .int .i64 g.door]) := F4.out.below hb F4.out.lt
                  have FB : Hid (Below w.heap.size w v_3) := FB.out.trans (hb.mono FB.out.size)
                  clear hb
                  try dsimp only
                  refine hK.out _ _ (by (try dsimp only); first | exact ⟨F0.out, F4.out⟩ | go_keep) (fun hHeld => ?_)
                  clear hK K
                  try simp only [Act.put, List.getElem_toArray, List.getElem_cons_succ, List.getElem_cons_zero, List.setIfInBounds_toArray, List.set_cons_zero, List.set_cons_succ]
                  refine wpAnyH_ready (rs := [10]) (by kernel_rfl) (by simp) ?_
                  refine (AllReadyH.cons rfl (fun K hK => ?_) AllReadyH.nil)
                  go_simp
                  obtain ⟨b5, hbb⟩ : ∃ b5, b5 = v_3.heap.size := ⟨_, rfl⟩
                  obtain ⟨v_4, hw2⟩ : ∃ v_4, v_4 = v_3.alloc (.cells #[.int .i64 0, .int .i64 0, .int .i64 0, .int .i64 0, .int .i64 0, .int .i64 0, .int .i64 0] 40) := ⟨_, rfl⟩
                  have nb5_0 := F0.out.lt
                  rw [← hbb] at nb5_0
                  have nb5_1 := F1.out.lt
                  rw [← hbb] at nb5_1
                  have nb5_2 := F3.out.lt
                  rw [← hbb] at nb5_2
                  have nb5_3 := F4.out.lt
                  rw [← hbb] at nb5_3
                  have F5 : Hid (Blk v_4 b5 [.int .i64 0, .int .i64 0, .int .i64 0, .int .i64 0, .int .i64 0, .int .i64 0, .int .i64 0]) := by rw [hw2]; exact Blk.at_ v_3 #[.int .i64 0, .int .i64 0, .int .i64 0, .int .i64 0, .int .i64 0, .int .i64 0, .int .i64 0] _ _ hbb
                  have F0 : Hid (Blk v_4 b0 [.int .i64 h.fl, .int .i64 h.gp, .int .i64 h.ln, .int .i64 h.rf, .int .i64 h.sp, .int .i64 h.pu, .int .i64 h.br, .int .i64 h.dr, .int .i64 h.lv, .int .i64 h.dO, .int .i64 h.ld, .int .i64 h.qu]) := by rw [hw2]; exact F0.out.alloc _
                  have F1 : Hid (Blk v_4 b1 [.int .i64 c.pos, .int .i64 c.vel, .int .i64 c.door]) := by rw [hw2]; exact F1.out.alloc _
                  have F3 : Hid (Blk v_4 b3 [.int .i64 0, .int .i64 0, .int .i64 0, .int .i64 0, .int .i64 0, .int .i64 0, .int .i64 0]) := by rw [hw2]; exact F3.out.alloc _
                  have F4 : Hid (Blk v_4 b4 [.int .i64 0, .int .i64 q.i, .int .i64 q.o, .int .i64 q.l, .int .i64 g.pos, .int .i64 g.vel, .int .i64 g.door]) := by rw [hw2]; exact F4.out.alloc _
                  have FB : Hid (Below w.heap.size w v_4) := by rw [hw2]; exact FB.out.alloc FB.out.size _
                  rw [← hw2, ← hbb]
                  clear hbb hw2
                  refine hK.out _ _ (by (try dsimp only); first | exact ⟨F0.out, F4.out⟩ | go_keep) (fun hHeld => ?_)
                  clear hK K
                  try simp only [Act.put, List.getElem_toArray, List.getElem_cons_succ, List.getElem_cons_zero, List.setIfInBounds_toArray, List.set_cons_zero, List.set_cons_succ]
                  refine wpAnyH_ready (rs := [11]) (by kernel_rfl) (by simp) ?_
                  refine (AllReadyH.cons rfl (fun K hK => ?_) AllReadyH.nil)
                  have k0 := F5.out.c 0 _ rfl
                  have k1 := F5.out.c 1 _ rfl
                  have k2 := F5.out.c 2 _ rfl
                  have k3 := F5.out.c 3 _ rfl
                  have k4 := F5.out.c 4 _ rfl
                  have k5 := F5.out.c 5 _ rfl
                  have k6 := F5.out.c 6 _ rfl
                  have kf0 := F5.out.f 0 (by decide)
                  have kf1 := F5.out.f 1 (by decide)
                  have kf2 := F5.out.f 2 (by decide)
                  have kf3 := F5.out.f 3 (by decide)
                  have kf4 := F5.out.f 4 (by decide)
                  have kf5 := F5.out.f 5 (by decide)
                  have kf6 := F5.out.f 6 (by decide)
                  go_simp
                  obtain ⟨v_5, hw2⟩ : ∃ v_5, v_5 = putB v_4 b5 0 [.int .i64 T.k, .int .i64 T.b.i, .int .i64 T.b.o, .int .i64 T.b.l, .int .i64 T.c.pos, .int .i64 T.c.vel, .int .i64 T.c.door] := ⟨_, rfl⟩
                  change K _ (putB v_4 b5 0 [.int .i64 T.k, .int .i64 T.b.i, .int .i64 T.b.o, .int .i64 T.b.l, .int .i64 T.c.pos, .int .i64 T.c.vel, .int .i64 T.c.door])
                  rw [← hw2]
                  clear k0 kf0 k1 kf1 k2 kf2 k3 kf3 k4 kf4 k5 kf5 k6 kf6
                  have F0 : Hid (Blk v_5 b0 [.int .i64 h.fl, .int .i64 h.gp, .int .i64 h.ln, .int .i64 h.rf, .int .i64 h.sp, .int .i64 h.pu, .int .i64 h.br, .int .i64 h.dr, .int .i64 h.lv, .int .i64 h.dO, .int .i64 h.ld, .int .i64 h.qu]) := by rw [hw2]; exact Blk.putB_other (by omega) _ 0 F0.out
                  have F1 : Hid (Blk v_5 b1 [.int .i64 c.pos, .int .i64 c.vel, .int .i64 c.door]) := by rw [hw2]; exact Blk.putB_other (by omega) _ 0 F1.out
                  have F3 : Hid (Blk v_5 b3 [.int .i64 0, .int .i64 0, .int .i64 0, .int .i64 0, .int .i64 0, .int .i64 0, .int .i64 0]) := by rw [hw2]; exact Blk.putB_other (by omega) _ 0 F3.out
                  have F4 : Hid (Blk v_5 b4 [.int .i64 0, .int .i64 q.i, .int .i64 q.o, .int .i64 q.l, .int .i64 g.pos, .int .i64 g.vel, .int .i64 g.door]) := by rw [hw2]; exact Blk.putB_other (by omega) _ 0 F4.out
                  have FB : Hid (Below w.heap.size w v_5) := by rw [hw2]; exact below_putB FB.out (by omega) _ 0
                  have F5 : Hid (Blk v_5 b5 [.int .i64 T.k, .int .i64 T.b.i, .int .i64 T.b.o, .int .i64 T.b.l, .int .i64 T.c.pos, .int .i64 T.c.vel, .int .i64 T.c.door]) := by rw [hw2]; exact F5.out.put [.int .i64 T.k, .int .i64 T.b.i, .int .i64 T.b.o, .int .i64 T.b.l, .int .i64 T.c.pos, .int .i64 T.c.vel, .int .i64 T.c.door] rfl
                  clear hw2
                  refine hK.out _ _ (by (try dsimp only); first | exact ⟨F0.out, F4.out⟩ | go_keep) (fun hHeld => ?_)
                  clear hK K
                  try simp only [Act.put, List.getElem_toArray, List.getElem_cons_succ, List.getElem_cons_zero, List.setIfInBounds_toArray, List.set_cons_zero, List.set_cons_succ]
                  refine wpAnyH_done (by kernel_rfl) ?_ _
                  go_wp2_with fail
                  go_meet
                  case rel => exact ⟨b5, rfl, by omega, F5.out, F0.out, F1.out, F3.out, F4.out, FB.out⟩
                · go_simp
                  obtain ⟨b5, hbb⟩ : ∃ b5, b5 = v_2.heap.size := ⟨_, rfl⟩
                  obtain ⟨v_6, hw2⟩ : ∃ v_6, v_6 = v_2.alloc (.cells #[.int .i64 0, .int .i64 0, .int .i64 0, .int .i64 0, .int .i64 0, .int .i64 0, .int .i64 0] 40) := ⟨_, rfl⟩
                  have nb5_0 := F0.out.lt
                  rw [← hbb] at nb5_0
                  have nb5_1 := F1.out.lt
                  rw [← hbb] at nb5_1
                  have nb5_2 := F3.out.lt
                  rw [← hbb] at nb5_2
                  have nb5_3 := F4.out.lt
                  rw [← hbb] at nb5_3
                  have F5 : Hid (Blk v_6 b5 [.int .i64 0, .int .i64 0, .int .i64 0, .int .i64 0, .int .i64 0, .int .i64 0, .int .i64 0]) := by rw [hw2]; exact Blk.at_ v_2 #[.int .i64 0, .int .i64 0, .int .i64 0, .int .i64 0, .int .i64 0, .int .i64 0, .int .i64 0] _ _ hbb
                  have F0 : Hid (Blk v_6 b0 [.int .i64 h.fl, .int .i64 h.gp, .int .i64 h.ln, .int .i64 h.rf, .int .i64 h.sp, .int .i64 h.pu, .int .i64 h.br, .int .i64 h.dr, .int .i64 h.lv, .int .i64 h.dO, .int .i64 h.ld, .int .i64 h.qu]) := by rw [hw2]; exact F0.out.alloc _
                  have F1 : Hid (Blk v_6 b1 [.int .i64 c.pos, .int .i64 c.vel, .int .i64 c.door]) := by rw [hw2]; exact F1.out.alloc _
                  have F3 : Hid (Blk v_6 b3 [.int .i64 0, .int .i64 0, .int .i64 0, .int .i64 0, .int .i64 0, .int .i64 0, .int .i64 0]) := by rw [hw2]; exact F3.out.alloc _
                  have F4 : Hid (Blk v_6 b4 [.int .i64 0, .int .i64 q.i, .int .i64 q.o, .int .i64 q.l, .int .i64 g.pos, .int .i64 g.vel, .int .i64 g.door]) := by rw [hw2]; exact F4.out.alloc _
                  have FB : Hid (Below w.heap.size w v_6) := by rw [hw2]; exact FB.out.alloc FB.out.size _
                  rw [← hw2, ← hbb]
                  clear hbb hw2
                  refine hK.out _ _ (by (try dsimp only); first | exact ⟨F0.out, F4.out⟩ | go_keep) (fun hHeld => ?_)
                  clear hK K
                  try simp only [Act.put, List.getElem_toArray, List.getElem_cons_succ, List.getElem_cons_zero, List.setIfInBounds_toArray, List.set_cons_zero, List.set_cons_succ]
                  refine wpAnyH_ready (rs := [9]) (by kernel_rfl) (by simp) ?_
                  refine (AllReadyH.cons rfl (fun K hK => ?_) AllReadyH.nil)
                  go_simp
                  refine (CS _).mono ?_
                  rintro e v_7 ⟨rfl, hb⟩
                  have F0 : Hid (Blk v_7 b0 [.int .i64 h.fl, .int .i64 h.gp, .int .i64 h.ln, .int .i64 h.rf, .int .i64 h.sp, .int .i64 h.pu, .int .i64 h.br, .int .i64 h.dr, .int .i64 h.lv, .int .i64 h.dO, .int .i64 h.ld, .int .i64 h.qu]) := F0.out.below hb F0.out.lt
                  have F1 : Hid (Blk v_7 b1 [.int .i64 c.pos, .int .i64 c.vel, .int .i64 c.door]) := F1.out.below hb F1.out.lt
                  have F3 : Hid (Blk v_7 b3 [.int .i64 0, .int .i64 0, .int .i64 0, .int .i64 0, .int .i64 0, .int .i64 0, .int .i64 0]) := F3.out.below hb F3.out.lt
                  have F4 : Hid (Blk v_7 b4 [.int .i64 0, .int .i64 q.i, .int .i64 q.o, .int .i64 q.l, .int .i64 g.pos, .int .i64 g.vel, .int .i64 g.door]) := F4.out.below hb F4.out.lt
                  have FB : Hid (Below w.heap.size w v_7) := FB.out.trans (hb.mono FB.out.size)
                  have F5 : Hid (Blk v_7 b5 [.int .i64 0, .int .i64 0, .int .i64 0, .int .i64 0, .int .i64 0, .int .i64 0, .int .i64 0]) := F5.out.below hb F5.out.lt
                  clear hb
                  try dsimp only
                  refine hK.out _ _ (by (try dsimp only); first | exact ⟨F0.out, F4.out⟩ | go_keep) (fun hHeld => ?_)
                  clear hK K
                  try simp only [Act.put, List.getElem_toArray, List.getElem_cons_succ, List.getElem_cons_zero, List.setIfInBounds_toArray, List.set_cons_zero, List.set_cons_succ]
                  refine wpAnyH_ready (rs := [11]) (by kernel_rfl) (by simp) ?_
                  refine (AllReadyH.cons rfl (fun K hK => ?_) AllReadyH.nil)
                  have k0 := F5.out.c 0 _ rfl
                  have k1 := F5.out.c 1 _ rfl
                  have k2 := F5.out.c 2 _ rfl
                  have k3 := F5.out.c 3 _ rfl
                  have k4 := F5.out.c 4 _ rfl
                  have k5 := F5.out.c 5 _ rfl
                  have k6 := F5.out.c 6 _ rfl
                  have kf0 := F5.out.f 0 (by decide)
                  have kf1 := F5.out.f 1 (by decide)
                  have kf2 := F5.out.f 2 (by decide)
                  have kf3 := F5.out.f 3 (by decide)
                  have kf4 := F5.out.f 4 (by decide)
                  have kf5 := F5.out.f 5 (by decide)
                  have kf6 := F5.out.f 6 (by decide)
                  go_simp
                  obtain ⟨v_8, hw2⟩ : ∃ v_8, v_8 = putB v_7 b5 0 [.int .i64 T.k, .int .i64 T.b.i, .int .i64 T.b.o, .int .i64 T.b.l, .int .i64 T.c.pos, .int .i64 T.c.vel, .int .i64 T.c.door] := ⟨_, rfl⟩
                  change K _ (putB v_7 b5 0 [.int .i64 T.k, .int .i64 T.b.i, .int .i64 T.b.o, .int .i64 T.b.l, .int .i64 T.c.pos, .int .i64 T.c.vel, .int .i64 T.c.door])
                  rw [← hw2]
                  clear k0 kf0 k1 kf1 k2 kf2 k3 kf3 k4 kf4 k5 kf5 k6 kf6
                  have F0 : Hid (Blk v_8 b0 [.int .i64 h.fl, .int .i64 h.gp, .int .i64 h.ln, .int .i64 h.rf, .int .i64 h.sp, .int .i64 h.pu, .int .i64 h.br, .int .i64 h.dr, .int .i64 h.lv, .int .i64 h.dO, .int .i64 h.ld, .int .i64 h.qu]) := by rw [hw2]; exact Blk.putB_other (by omega) _ 0 F0.out
                  have F1 : Hid (Blk v_8 b1 [.int .i64 c.pos, .int .i64 c.vel, .int .i64 c.door]) := by rw [hw2]; exact Blk.putB_other (by omega) _ 0 F1.out
                  have F3 : Hid (Blk v_8 b3 [.int .i64 0, .int .i64 0, .int .i64 0, .int .i64 0, .int .i64 0, .int .i64 0, .int .i64 0]) := by rw [hw2]; exact Blk.putB_other (by omega) _ 0 F3.out
                  have F4 : Hid (Blk v_8 b4 [.int .i64 0, .int .i64 q.i, .int .i64 q.o, .int .i64 q.l, .int .i64 g.pos, .int .i64 g.vel, .int .i64 g.door]) := by rw [hw2]; exact Blk.putB_other (by omega) _ 0 F4.out
                  have FB : Hid (Below w.heap.size w v_8) := by rw [hw2]; exact below_putB FB.out (by omega) _ 0
                  have F5 : Hid (Blk v_8 b5 [.int .i64 T.k, .int .i64 T.b.i, .int .i64 T.b.o, .int .i64 T.b.l, .int .i64 T.c.pos, .int .i64 T.c.vel, .int .i64 T.c.door]) := by rw [hw2]; exact F5.out.put [.int .i64 T.k, .int .i64 T.b.i, .int .i64 T.b.o, .int .i64 T.b.l, .int .i64 T.c.pos, .int .i64 T.c.vel, .int .i64 T.c.door] rfl
                  clear hw2
                  refine hK.out _ _ (by (try dsimp only); first | exact ⟨F0.out, F4.out⟩ | go_keep) (fun hHeld => ?_)
                  clear hK K
                  try simp only [Act.put, List.getElem_toArray, List.getElem_cons_succ, List.getElem_cons_zero, List.setIfInBounds_toArray, List.set_cons_zero, List.set_cons_succ]
                  refine wpAnyH_done (by kernel_rfl) ?_ _
                  go_wp2_with fail
                  go_meet
                  case rel => exact ⟨b5, rfl, by omega, F5.out, F0.out, F1.out, F3.out, F4.out, FB.out⟩
              · go_simp
                obtain ⟨b5, hbb⟩ : ∃ b5, b5 = v_1.heap.size := ⟨_, rfl⟩
                obtain ⟨v_9, hw2⟩ : ∃ v_9, v_9 = v_1.alloc (.cells #[.int .i64 0, .int .i64 0, .int .i64 0, .int .i64 0, .int .i64 0, .int .i64 0, .int .i64 0] 40) := ⟨_, rfl⟩
                have nb5_0 := F0.out.lt
                rw [← hbb] at nb5_0
                have nb5_1 := F1.out.lt
                rw [← hbb] at nb5_1
                have nb5_2 := F3.out.lt
                rw [← hbb] at nb5_2
                have nb5_3 := F4.out.lt
                rw [← hbb] at nb5_3
                have F5 : Hid (Blk v_9 b5 [.int .i64 0, .int .i64 0, .int .i64 0, .int .i64 0, .int .i64 0, .int .i64 0, .int .i64 0]) := by rw [hw2]; exact Blk.at_ v_1 #[.int .i64 0, .int .i64 0, .int .i64 0, .int .i64 0, .int .i64 0, .int .i64 0, .int .i64 0] _ _ hbb
                have F0 : Hid (Blk v_9 b0 [.int .i64 h.fl, .int .i64 h.gp, .int .i64 h.ln, .int .i64 h.rf, .int .i64 h.sp, .int .i64 h.pu, .int .i64 h.br, .int .i64 h.dr, .int .i64 h.lv, .int .i64 h.dO, .int .i64 h.ld, .int .i64 h.qu]) := by rw [hw2]; exact F0.out.alloc _
                have F1 : Hid (Blk v_9 b1 [.int .i64 c.pos, .int .i64 c.vel, .int .i64 c.door]) := by rw [hw2]; exact F1.out.alloc _
                have F3 : Hid (Blk v_9 b3 [.int .i64 0, .int .i64 0, .int .i64 0, .int .i64 0, .int .i64 0, .int .i64 0, .int .i64 0]) := by rw [hw2]; exact F3.out.alloc _
                have F4 : Hid (Blk v_9 b4 [.int .i64 0, .int .i64 q.i, .int .i64 q.o, .int .i64 q.l, .int .i64 g.pos, .int .i64 g.vel, .int .i64 g.door]) := by rw [hw2]; exact F4.out.alloc _
                have FB : Hid (Below w.heap.size w v_9) := by rw [hw2]; exact FB.out.alloc FB.out.size _
                rw [← hw2, ← hbb]
                clear hbb hw2
                refine hK.out _ _ (by (try dsimp only); first | exact ⟨F0.out, F4.out⟩ | go_keep) (fun hHeld => ?_)
                clear hK K
                try simp only [Act.put, List.getElem_toArray, List.getElem_cons_succ, List.getElem_cons_zero, List.setIfInBounds_toArray, List.set_cons_zero, List.set_cons_succ]
                refine wpAnyH_ready (rs := [7]) (by kernel_rfl) (by simp) ?_
                refine (AllReadyH.cons rfl (fun K hK => ?_) AllReadyH.nil)
                go_simp
                refine (CX _).mono ?_
                rintro e v_10 ⟨rfl, hb⟩
                have F0 : Hid (Blk v_10 b0 [.int .i64 h.fl, .int .i64 h.gp, .int .i64 h.ln, .int .i64 h.rf, .int .i64 h.sp, .int .i64 h.pu, .int .i64 h.br, .int .i64 h.dr, .int .i64 h.lv, .int .i64 h.dO, .int .i64 h.ld, .int .i64 h.qu]) := F0.out.below hb F0.out.lt
                have F1 : Hid (Blk v_10 b1 [.int .i64 c.pos, .int .i64 c.vel, .int .i64 c.door]) := F1.out.below hb F1.out.lt
                have F3 : Hid (Blk v_10 b3 [.int .i64 0, .int .i64 0, .int .i64 0, .int .i64 0, .int .i64 0, .int .i64 0, .int .i64 0]) := F3.out.below hb F3.out.lt
                have F4 : Hid (Blk v_10 b4 [.int .i64 0, .int .i64 q.i, .int .i64 q.o, .int .i64 q.l, .int .i64 g.pos, .int .i64 g.vel, .int .i64 g.door]) := F4.out.below hb F4.out.lt
                have FB : Hid (Below w.heap.size w v_10) := FB.out.trans (hb.mono FB.out.size)
                have F5 : Hid (Blk v_10 b5 [.int .i64 0, .int .i64 0, .int .i64 0, .int .i64 0, .int .i64 0, .int .i64 0, .int .i64 0]) := F5.out.below hb F5.out.lt
                clear hb
                try dsimp only
                refine hK.out _ _ (by (try dsimp only); first | exact ⟨F0.out, F4.out⟩ | go_keep) (fun hHeld => ?_)
                clear hK K
                try simp only [Act.put, List.getElem_toArray, List.getElem_cons_succ, List.getElem_cons_zero, List.setIfInBounds_toArray, List.set_cons_zero, List.set_cons_succ]
                refine wpAnyH_ready (rs := [9]) (by kernel_rfl) (by simp) ?_
                refine (AllReadyH.cons rfl (fun K hK => ?_) AllReadyH.nil)
                go_simp
                refine (CS _).mono ?_
                rintro e v_11 ⟨rfl, hb⟩
                have F0 : Hid (Blk v_11 b0 [.int .i64 h.fl, .int .i64 h.gp, .int .i64 h.ln, .int .i64 h.rf, .int .i64 h.sp, .int .i64 h.pu, .int .i64 h.br, .int .i64 h.dr, .int .i64 h.lv, .int .i64 h.dO, .int .i64 h.ld, .int .i64 h.qu]) := F0.out.below hb F0.out.lt
                have F1 : Hid (Blk v_11 b1 [.int .i64 c.pos, .int .i64 c.vel, .int .i64 c.door]) := F1.out.below hb F1.out.lt
                have F3 : Hid (Blk v_11 b3 [.int .i64 0, .int .i64 0, .int .i64 0, .int .i64 0, .int .i64 0, .int .i64 0, .int .i64 0]) := F3.out.below hb F3.out.lt
                have F4 : Hid (Blk v_11 b4 [.int .i64 0, .int .i64 q.i, .int .i64 q.o, .int .i64 q.l, .int .i64 g.pos, .int .i64 g.vel, .int .i64 g.door]) := F4.out.below hb F4.out.lt
                have FB : Hid (Below w.heap.size w v_11) := FB.out.trans (hb.mono FB.out.size)
                have F5 : Hid (Blk v_11 b5 [.int .i64 0, .int .i64 0, .int .i64 0, .int .i64 0, .int .i64 0, .int .i64 0, .int .i64 0]) := F5.out.below hb F5.out.lt
                clear hb
                try dsimp only
                refine hK.out _ _ (by (try dsimp only); first | exact ⟨F0.out, F4.out⟩ | go_keep) (fun hHeld => ?_)
                clear hK K
                try simp only [Act.put, List.getElem_toArray, List.getElem_cons_succ, List.getElem_cons_zero, List.setIfInBounds_toArray, List.set_cons_zero, List.set_cons_succ]
                refine wpAnyH_ready (rs := [11]) (by kernel_rfl) (by simp) ?_
                refine (AllReadyH.cons rfl (fun K hK => ?_) AllReadyH.nil)
                have k0 := F5.out.c 0 _ rfl
                have k1 := F5.out.c 1 _ rfl
                have k2 := F5.out.c 2 _ rfl
                have k3 := F5.out.c 3 _ rfl
                have k4 := F5.out.c 4 _ rfl
                have k5 := F5.out.c 5 _ rfl
                have k6 := F5.out.c 6 _ rfl
                have kf0 := F5.out.f 0 (by decide)
                have kf1 := F5.out.f 1 (by decide)
                have kf2 := F5.out.f 2 (by decide)
                have kf3 := F5.out.f 3 (by decide)
                have kf4 := F5.out.f 4 (by decide)
                have kf5 := F5.out.f 5 (by decide)
                have kf6 := F5.out.f 6 (by decide)
                go_simp
                obtain ⟨v_12, hw2⟩ : ∃ v_12, v_12 = putB v_11 b5 0 [.int .i64 T.k, .int .i64 T.b.i, .int .i64 T.b.o, .int .i64 T.b.l, .int .i64 T.c.pos, .int .i64 T.c.vel, .int .i64 T.c.door] := ⟨_, rfl⟩
                change K _ (putB v_11 b5 0 [.int .i64 T.k, .int .i64 T.b.i, .int .i64 T.b.o, .int .i64 T.b.l, .int .i64 T.c.pos, .int .i64 T.c.vel, .int .i64 T.c.door])
                rw [← hw2]
                clear k0 kf0 k1 kf1 k2 kf2 k3 kf3 k4 kf4 k5 kf5 k6 kf6
                have F0 : Hid (Blk v_12 b0 [.int .i64 h.fl, .int .i64 h.gp, .int .i64 h.ln, .int .i64 h.rf, .int .i64 h.sp, .int .i64 h.pu, .int .i64 h.br, .int .i64 h.dr, .int .i64 h.lv, .int .i64 h.dO, .int .i64 h.ld, .int .i64 h.qu]) := by rw [hw2]; exact Blk.putB_other (by omega) _ 0 F0.out
                have F1 : Hid (Blk v_12 b1 [.int .i64 c.pos, .int .i64 c.vel, .int .i64 c.door]) := by rw [hw2]; exact Blk.putB_other (by omega) _ 0 F1.out
                have F3 : Hid (Blk v_12 b3 [.int .i64 0, .int .i64 0, .int .i64 0, .int .i64 0, .int .i64 0, .int .i64 0, .int .i64 0]) := by rw [hw2]; exact Blk.putB_other (by omega) _ 0 F3.out
                have F4 : Hid (Blk v_12 b4 [.int .i64 0, .int .i64 q.i, .int .i64 q.o, .int .i64 q.l, .int .i64 g.pos, .int .i64 g.vel, .int .i64 g.door]) := by rw [hw2]; exact Blk.putB_other (by omega) _ 0 F4.out
                have FB : Hid (Below w.heap.size w v_12) := by rw [hw2]; exact below_putB FB.out (by omega) _ 0
                have F5 : Hid (Blk v_12 b5 [.int .i64 T.k, .int .i64 T.b.i, .int .i64 T.b.o, .int .i64 T.b.l, .int .i64 T.c.pos, .int .i64 T.c.vel, .int .i64 T.c.door]) := by rw [hw2]; exact F5.out.put [.int .i64 T.k, .int .i64 T.b.i, .int .i64 T.b.o, .int .i64 T.b.l, .int .i64 T.c.pos, .int .i64 T.c.vel, .int .i64 T.c.door] rfl
                clear hw2
                refine hK.out _ _ (by (try dsimp only); first | exact ⟨F0.out, F4.out⟩ | go_keep) (fun hHeld => ?_)
                clear hK K
                try simp only [Act.put, List.getElem_toArray, List.getElem_cons_succ, List.getElem_cons_zero, List.setIfInBounds_toArray, List.set_cons_zero, List.set_cons_succ]
                refine wpAnyH_done (by kernel_rfl) ?_ _
                go_wp2_with fail
                go_meet
                case rel => exact ⟨b5, rfl, by omega, F5.out, F0.out, F1.out, F3.out, F4.out, FB.out⟩
            case rest =>
            obtain ⟨b5, rfl, n45, h_F5, h_F0, h_F1, h_F3, h_F4, hB⟩ := hcut
            have F5 : Hid (Blk wc b5 [.int .i64 T.k, .int .i64 T.b.i, .int .i64 T.b.o, .int .i64 T.b.l, .int .i64 T.c.pos, .int .i64 T.c.vel, .int .i64 T.c.door]) := h_F5
            clear h_F5
            have F0 : Hid (Blk wc b0 [.int .i64 h.fl, .int .i64 h.gp, .int .i64 h.ln, .int .i64 h.rf, .int .i64 h.sp, .int .i64 h.pu, .int .i64 h.br, .int .i64 h.dr, .int .i64 h.lv, .int .i64 h.dO, .int .i64 h.ld, .int .i64 h.qu]) := h_F0
            have F1 : Hid (Blk wc b1 [.int .i64 c.pos, .int .i64 c.vel, .int .i64 c.door]) := h_F1
            have F3 : Hid (Blk wc b3 [.int .i64 0, .int .i64 0, .int .i64 0, .int .i64 0, .int .i64 0, .int .i64 0, .int .i64 0]) := h_F3
            have F4 : Hid (Blk wc b4 [.int .i64 0, .int .i64 q.i, .int .i64 q.o, .int .i64 q.l, .int .i64 g.pos, .int .i64 g.vel, .int .i64 g.door]) := h_F4
            have FB : Hid (Below w.heap.size w wc) := hB
            clear h_F0 h_F1 h_F3 h_F4 hB
            clear CX CS CL
            rcases HT.out with ⟨hc, hT, hR2, hd2⟩ | ⟨hT, hR2⟩
            · subst hT
              have F5 : Hid (Blk wc b5 [.int .i64 0, .int .i64 s2.i, .int .i64 s2.o, .int .i64 s2.l, .int .i64 g2.pos, .int .i64 g2.vel, .int .i64 g2.door]) := F5.out
              have HC2 : Hid (h.carC g2 = 0) := hc
              have HD2 : Hid (g2.door = 0) := hd2
              have HR2 : Hid (R = Hs.bkR h f r (t - (n + 1)).toNat g2 (q.add s2)) := hR2
              clear hc hd2 hR2 HT
              obtain ⟨bi, bo, bl⟩ := bb
              have e0 := F5.out.c 0 _ rfl
              have e1 := F5.out.c 1 _ rfl
              have e2 := F5.out.c 2 _ rfl
              have e3 := F5.out.c 3 _ rfl
              have e4 := F5.out.c 4 _ rfl
              have e5 := F5.out.c 5 _ rfl
              have e6 := F5.out.c 6 _ rfl
              have y1 := F4.out.c 1 _ rfl
              have yf1 := F4.out.f 1 (Nat.le_of_ble_eq_true rfl)
              have y2 := F4.out.c 2 _ rfl
              have yf2 := F4.out.f 2 (Nat.le_of_ble_eq_true rfl)
              have y3 := F4.out.c 3 _ rfl
              have yf3 := F4.out.f 3 (Nat.le_of_ble_eq_true rfl)
              have y4 := F4.out.c 4 _ rfl
              have yf4 := F4.out.f 4 (Nat.le_of_ble_eq_true rfl)
              have y5 := F4.out.c 5 _ rfl
              have yf5 := F4.out.f 5 (Nat.le_of_ble_eq_true rfl)
              have y6 := F4.out.c 6 _ rfl
              have yf6 := F4.out.f 6 (Nat.le_of_ble_eq_true rfl)
              go_upto_region 11 with fail
              clear e0 e1 e2 e3 e4 e5 e6 y1 yf1 y2 yf2 y3 yf3 y4 yf4 y5 yf5 y6 yf6
              obtain ⟨w5, hw2⟩ : ∃ w5, w5 = (((((wc.setCell ⟨b4, 1, none⟩ (.int .i64 (q.i + s2.i))).setCell ⟨b4, 2, none⟩ (.int .i64 (q.o + s2.o))).setCell ⟨b4, 3, none⟩ (.int .i64 (q.l + s2.l))).setCell ⟨b4, 4, none⟩ (.int .i64 g2.pos)).setCell ⟨b4, 5, none⟩ (.int .i64 g2.vel)).setCell ⟨b4, 6, none⟩ (.int .i64 g2.door) := ⟨_, rfl⟩
              rw [← hw2]
              have F0 : Hid (Blk w5 b0 [.int .i64 h.fl, .int .i64 h.gp, .int .i64 h.ln, .int .i64 h.rf, .int .i64 h.sp, .int .i64 h.pu, .int .i64 h.br, .int .i64 h.dr, .int .i64 h.lv, .int .i64 h.dO, .int .i64 h.ld, .int .i64 h.qu]) := by rw [hw2]; exact Blk.putB_other (by omega) [.int .i64 (q.i + s2.i), .int .i64 (q.o + s2.o), .int .i64 (q.l + s2.l), .int .i64 g2.pos, .int .i64 g2.vel, .int .i64 g2.door] 1 F0.out
              have F1 : Hid (Blk w5 b1 [.int .i64 c.pos, .int .i64 c.vel, .int .i64 c.door]) := by rw [hw2]; exact Blk.putB_other (by omega) [.int .i64 (q.i + s2.i), .int .i64 (q.o + s2.o), .int .i64 (q.l + s2.l), .int .i64 g2.pos, .int .i64 g2.vel, .int .i64 g2.door] 1 F1.out
              have F3 : Hid (Blk w5 b3 [.int .i64 0, .int .i64 0, .int .i64 0, .int .i64 0, .int .i64 0, .int .i64 0, .int .i64 0]) := by rw [hw2]; exact Blk.putB_other (by omega) [.int .i64 (q.i + s2.i), .int .i64 (q.o + s2.o), .int .i64 (q.l + s2.l), .int .i64 g2.pos, .int .i64 g2.vel, .int .i64 g2.door] 1 F3.out
              have F4 : Hid (Blk w5 b4 [.int .i64 0, .int .i64 (q.i + s2.i), .int .i64 (q.o + s2.o), .int .i64 (q.l + s2.l), .int .i64 g2.pos, .int .i64 g2.vel, .int .i64 g2.door]) := by rw [hw2]; exact putB_set [.int .i64 (q.i + s2.i), .int .i64 (q.o + s2.o), .int .i64 (q.l + s2.l), .int .i64 g2.pos, .int .i64 g2.vel, .int .i64 g2.door] _ 1 wc F4.out (Nat.le_of_ble_eq_true rfl)
              have F5 : Hid (Blk w5 b5 [.int .i64 0, .int .i64 s2.i, .int .i64 s2.o, .int .i64 s2.l, .int .i64 g2.pos, .int .i64 g2.vel, .int .i64 g2.door]) := by rw [hw2]; exact Blk.putB_other (by omega) [.int .i64 (q.i + s2.i), .int .i64 (q.o + s2.o), .int .i64 (q.l + s2.l), .int .i64 g2.pos, .int .i64 g2.vel, .int .i64 g2.door] 1 F5.out
              have FB : Hid (Below w.heap.size w w5) := by rw [hw2]; exact below_putB FB.out (by omega) [.int .i64 (q.i + s2.i), .int .i64 (q.o + s2.o), .int .i64 (q.l + s2.l), .int .i64 g2.pos, .int .i64 g2.vel, .int .i64 g2.door] 1
              clear hw2
              go_wp2_with fail
              go_roundw
              case rel => exact ⟨n + 1, g2, q.add s2, rfl, by omega, by omega, by show 0 ≤ q.i + s2.i ∧ q.i + s2.i ≤ _; omega, by show 0 ≤ q.o + s2.o ∧ q.o + s2.o ≤ _; omega, by show 0 ≤ q.l + s2.l ∧ q.l + s2.l ≤ _; omega, Hs.car_zero (by rw [Hs.car_ok HFz.out]; exact HC2.out), HD2.out, HR2.out.symm, F0.out, F1.out, F3.out, F4.out, FB.out⟩
              case measure => simp [intOf]; omega
            · subst hT
              have F5 : Hid (Blk wc b5 [.int .i64 3, .int .i64 0, .int .i64 0, .int .i64 0, .int .i64 0, .int .i64 0, .int .i64 0]) := F5.out
              have ER : Hid (Bks.bad 3 = R) := hR2.symm
              have e0 := F5.out.c 0 _ rfl
              clear hR2 HT
              go_wp2_with (refine store_blk [.int .i64 3, .int .i64 0, .int .i64 0, .int .i64 0, .int .i64 0, .int .i64 0, .int .i64 0] 40 _ _ (by kernel_rfl) (by kernel_rfl) (by kernel_rfl) F3.out rfl rfl rfl rfl ?_)
              exact bodyPost_ret (v := .agg #[.int .i64 3, .int .i64 0, .int .i64 0, .int .i64 0, .int .i64 0, .int .i64 0, .int .i64 0]) ((F3.out.row [.int .i64 3, .int .i64 0, .int .i64 0, .int .i64 0, .int .i64 0, .int .i64 0, .int .i64 0]).res _ Try.results25 Try.underlying40 (by kernel_rfl) rfl) rfl ⟨ret_bk (R := Bks.bad 3) ER.out, below_row FB.out leb3 _⟩
        · have ER : Hid ((⟨0, q, g⟩ : Bks) = R) := by rw [← hq, show (t - n).toNat = 0 by omega]; rfl
          clear hq hok hdz CL
          go_wp2_with (first | (refine load_blk 40 _ Try.underlying40 (by kernel_rfl) F4.out rfl rfl rfl ?_) | (refine store_blk [.int .i64 0, .int .i64 q.i, .int .i64 q.o, .int .i64 q.l, .int .i64 g.pos, .int .i64 g.vel, .int .i64 g.door] 40 _ _ (by kernel_rfl) (by kernel_rfl) (by kernel_rfl) F3.out rfl rfl rfl rfl ?_))
          exact bodyPost_ret (v := .agg #[.int .i64 0, .int .i64 q.i, .int .i64 q.o, .int .i64 q.l, .int .i64 g.pos, .int .i64 g.vel, .int .i64 g.door]) ((F3.out.row [.int .i64 0, .int .i64 q.i, .int .i64 q.o, .int .i64 q.l, .int .i64 g.pos, .int .i64 g.vel, .int .i64 g.door]).res _ Try.results25 Try.underlying40 (by kernel_rfl) rfl) rfl ⟨ret_bk (R := ⟨0, q, g⟩) ER.out, below_row FB.out leb3 _⟩
end Go.Proofs.Ytngdfckknkgdgaa
