/-
  The model's group: what is asked of it.
-/
import Derived.Test.YtdkikijnjkoddaaGreatGrpD
import Derived.Test.YtdkikijnjkoddaaGreatCarU
import Derived.Test.YtdkikijnjkoddaaGreatSpanA
import Derived.Test.YtdkikijnjkoddaaGreatPersF
import Derived.Test.YtdkikijnjkoddaaGreatLedP
import Derived.BigGuardPart
namespace Go.Proofs.YtdkikijnjkoddaaGreat
open Go.RowKit Pl
set_option linter.unusedSimpArgs false
set_option linter.unusedVariables false

theorem phB_iff {d : Dk} : phB d = (decide ((if d.sh.lo.door ≠ 0 ∧ d.pl = 0 then (1 : Int) else 0) ≠ 0) || decide ((if d.sh.up.door ≠ 0 ∧ d.pu = 0 then (1 : Int) else 0) ≠ 0)) := by
  unfold phB
  by_cases a : d.sh.lo.door = 0 <;> by_cases b : d.pl = 0 <;> by_cases c : d.sh.up.door = 0 <;> by_cases e : d.pu = 0 <;> simp [a, b, c, e]
theorem away_step {n : Nat} {l : List Pe} {i : Nat} {p : Pe} (hp : l[i]? = some p) (h : (n : Int) ≤ p.sh) : awayB n l = true := by
  unfold awayB
  rw [List.any_eq_true]
  exact ⟨p, List.mem_of_getElem? hp, decide_eq_true h⟩
theorem away_none {n : Nat} {l : List Pe} (h : ∀ (j : Nat) q, j < l.length → l[j]? = some q → q.sh < (n : Int)) : awayB n l = false := by
  unfold awayB
  rw [List.any_eq_false]
  intro p hp
  obtain ⟨j, hj⟩ := List.getElem?_of_mem hp
  have := h j p (List.getElem?_eq_some_iff.1 hj).1 hj
  simp
  omega
set_option maxRecDepth 20000 in
set_option maxHeartbeats 8000000 in
theorem l8Phase_any (c : Cs) (p : Int) (hp : inB p 0 2 = true) (w : World) :
    Calls Tryz.prog 38 #[.agg #[.int .i64 c.pos, .int .i64 c.vel, .int .i64 c.door], .int .i64 p] w fun e w' => e = .returned (.int .i64 (if c.door ≠ 0 ∧ p = 0 then 1 else 0)) ∧ Below w.heap.size w w' := by
  have HB : Hid (Below w.heap.size w (w.alloc (.cells #[.int .i64 c.pos, .int .i64 c.vel, .int .i64 c.door] 74))) := (Below.refl _ _).alloc (Nat.le_refl _) _
  by_cases d : c.door = 0
  · rw [if_neg (fun q => q.1 d)]
    have hd : (c.door != 0) = false := by simpa using d
    clear d
    go_enter Tryz.func38, Tryz.ntmps38
    go_wp2_with (go_at_call 37; refine (l1In_any _ _ _ _).mono ?_; rintro e w' ⟨rfl, hw⟩; obtain rfl := hw.symm; clear hw)
    go_ret
    exact ⟨rfl, HB.out⟩
  · have hd : (c.door != 0) = true := by simpa using d
    by_cases q : p = 0
    · subst q
      rw [if_pos ⟨d, rfl⟩]
      clear d
      go_enter Tryz.func38, Tryz.ntmps38
      go_wp2_with (go_at_call 37; refine (l1In_any _ _ _ _).mono ?_; rintro e w' ⟨rfl, hw⟩; obtain rfl := hw.symm; clear hw)
      go_ret
      exact ⟨rfl, HB.out⟩
    · rw [if_neg (fun z => q z.2)]
      have hq : (p == 0) = false := by simpa using q
      clear q d
      go_enter Tryz.func38, Tryz.ntmps38
      go_wp2_with (go_at_call 37; refine (l1In_any _ _ _ _).mono ?_; rintro e w' ⟨rfl, hw⟩; obtain rfl := hw.symm; clear hw)
      go_ret
      exact ⟨rfl, HB.out⟩
set_option maxRecDepth 20000 in
set_option maxHeartbeats 32000000 in
theorem specGroupFault_any (h : Hs) (ds : List Dk) (da : Option Addr) (dc : Nat) (nx : Int) (ps : List Pe) (pa : Option Addr) (pc : Nat) (tk : Int) (rc : Bool) (hld : ds.length ≤ 1048576) (hlp : ps.length ≤ 1048576) (w : World) (hD : DIn w w.heap.size da ds) (hP : PIn w w.heap.size pa ps) :
    Calls Tryz.prog 15 #[.agg #[.int .i64 h.fl, .int .i64 h.gp, .int .i64 h.ln, .int .i64 h.rf, .int .i64 h.sp, .int .i64 h.pu, .int .i64 h.br, .int .i64 h.dr, .int .i64 h.lv, .int .i64 h.dO, .int .i64 h.ld, .int .i64 h.qu, .slice da ds.length dc, .int .i64 nx, .slice pa ps.length pc, .int .i64 tk, .bool rc]] w fun e w' => e = .returned (.int .i64 (Gr.fault ⟨h, ds, ⟨nx, ps⟩, tk, rc⟩)) ∧ Below w.heap.size w w' := by
  have HD : Hid (DIn w w.heap.size da ds) := hD
  have HP : Hid (PIn w w.heap.size pa ps) := hP
  have F0 : Hid (Blk (w.alloc (.cells #[.int .i64 h.fl, .int .i64 h.gp, .int .i64 h.ln, .int .i64 h.rf, .int .i64 h.sp, .int .i64 h.pu, .int .i64 h.br, .int .i64 h.dr, .int .i64 h.lv, .int .i64 h.dO, .int .i64 h.ld, .int .i64 h.qu, .slice da ds.length dc, .int .i64 nx, .slice pa ps.length pc, .int .i64 tk, .bool rc] 37)) w.heap.size (gvs h (.slice da ds.length dc) nx (.slice pa ps.length pc) tk rc)) := Blk.at_ w #[.int .i64 h.fl, .int .i64 h.gp, .int .i64 h.ln, .int .i64 h.rf, .int .i64 h.sp, .int .i64 h.pu, .int .i64 h.br, .int .i64 h.dr, .int .i64 h.lv, .int .i64 h.dO, .int .i64 h.ld, .int .i64 h.qu, .slice da ds.length dc, .int .i64 nx, .slice pa ps.length pc, .int .i64 tk, .bool rc] _ _ rfl
  have FB : Hid (Below w.heap.size w (w.alloc (.cells #[.int .i64 h.fl, .int .i64 h.gp, .int .i64 h.ln, .int .i64 h.rf, .int .i64 h.sp, .int .i64 h.pu, .int .i64 h.br, .int .i64 h.dr, .int .i64 h.lv, .int .i64 h.dO, .int .i64 h.ld, .int .i64 h.qu, .slice da ds.length dc, .int .i64 nx, .slice pa ps.length pc, .int .i64 tk, .bool rc] 37))) := (Below.refl _ _).alloc (Nat.le_refl _) _
  obtain ⟨W0, hW0⟩ : ∃ W0, W0 = (w.alloc (.cells #[.int .i64 h.fl, .int .i64 h.gp, .int .i64 h.ln, .int .i64 h.rf, .int .i64 h.sp, .int .i64 h.pu, .int .i64 h.br, .int .i64 h.dr, .int .i64 h.lv, .int .i64 h.dO, .int .i64 h.ld, .int .i64 h.qu, .slice da ds.length dc, .int .i64 nx, .slice pa ps.length pc, .int .i64 tk, .bool rc] 37)) := ⟨_, rfl⟩
  rw [← hW0] at F0 FB
  have HW0 : Hid (W0 = (w.alloc (.cells #[.int .i64 h.fl, .int .i64 h.gp, .int .i64 h.ln, .int .i64 h.rf, .int .i64 h.sp, .int .i64 h.pu, .int .i64 h.br, .int .i64 h.dr, .int .i64 h.lv, .int .i64 h.dO, .int .i64 h.ld, .int .i64 h.qu, .slice da ds.length dc, .int .i64 nx, .slice pa ps.length pc, .int .i64 tk, .bool rc] 37))) := hW0
  clear hW0 hD hP
  unfold Gr.fault
  dsimp only
  by_cases hf : h.fault = 0
  case neg =>
    rw [if_neg hf]
    have hn : (h.fault != 0) = true := by simpa using hf
    clear hf
    go_enter Tryz.func15, Tryz.ntmps15
    go_upto_region 1 with fail
    rw [← HW0.out]
    have x0 := F0.out.c 0 _ rfl
    have x1 := F0.out.c 1 _ rfl
    have x2 := F0.out.c 2 _ rfl
    have x3 := F0.out.c 3 _ rfl
    have x4 := F0.out.c 4 _ rfl
    have x5 := F0.out.c 5 _ rfl
    have x6 := F0.out.c 6 _ rfl
    have x7 := F0.out.c 7 _ rfl
    have x8 := F0.out.c 8 _ rfl
    have x9 := F0.out.c 9 _ rfl
    have x10 := F0.out.c 10 _ rfl
    have x11 := F0.out.c 11 _ rfl
    have x12 := F0.out.c 12 _ rfl
    have x13 := F0.out.c 13 _ rfl
    have x14 := F0.out.c 14 _ rfl
    have x15 := F0.out.c 15 _ rfl
    have x16 := F0.out.c 16 _ rfl
    go_wp2_with (go_at_call 34; refine (specFault_any h _).mono ?_; rintro e w1 ⟨rfl, hb⟩; have F0 : Hid (Blk w1 w.heap.size (gvs h (.slice da ds.length dc) nx (.slice pa ps.length pc) tk rc)) := F0.out.below hb F0.out.lt; have FB : Hid (Below w.heap.size w w1) := FB.out.trans (hb.mono FB.out.size); clear hb; have x0 := F0.out.c 0 _ rfl; have x1 := F0.out.c 1 _ rfl; have x2 := F0.out.c 2 _ rfl; have x3 := F0.out.c 3 _ rfl; have x4 := F0.out.c 4 _ rfl; have x5 := F0.out.c 5 _ rfl; have x6 := F0.out.c 6 _ rfl; have x7 := F0.out.c 7 _ rfl; have x8 := F0.out.c 8 _ rfl; have x9 := F0.out.c 9 _ rfl; have x10 := F0.out.c 10 _ rfl; have x11 := F0.out.c 11 _ rfl; have x12 := F0.out.c 12 _ rfl; have x13 := F0.out.c 13 _ rfl; have x14 := F0.out.c 14 _ rfl; have x15 := F0.out.c 15 _ rfl; have x16 := F0.out.c 16 _ rfl)
    go_ret
    exact ⟨rfl, FB.out⟩
  rw [if_pos hf]
  obtain ⟨r, hr⟩ : ∃ r, Gr.faultC ⟨h, ds, ⟨nx, ps⟩, tk, rc⟩ = r := ⟨_, rfl⟩
  rw [hr]
  have HR : Hid (Gr.faultC ⟨h, ds, ⟨nx, ps⟩, tk, rc⟩ = r) := hr
  clear hr
  unfold Gr.faultC at HR
  dsimp only at HR
  go_enter Tryz.func15, Tryz.ntmps15
  go_upto_region 1 with fail
  rw [← HW0.out]
  have x0 := F0.out.c 0 _ rfl
  have x1 := F0.out.c 1 _ rfl
  have x2 := F0.out.c 2 _ rfl
  have x3 := F0.out.c 3 _ rfl
  have x4 := F0.out.c 4 _ rfl
  have x5 := F0.out.c 5 _ rfl
  have x6 := F0.out.c 6 _ rfl
  have x7 := F0.out.c 7 _ rfl
  have x8 := F0.out.c 8 _ rfl
  have x9 := F0.out.c 9 _ rfl
  have x10 := F0.out.c 10 _ rfl
  have x11 := F0.out.c 11 _ rfl
  have x12 := F0.out.c 12 _ rfl
  have x13 := F0.out.c 13 _ rfl
  have x14 := F0.out.c 14 _ rfl
  have x15 := F0.out.c 15 _ rfl
  have x16 := F0.out.c 16 _ rfl
  go_upto_region 4 with (go_at_call 34; refine (specFault_any h _).mono ?_; rw [hf]; rintro e w1 ⟨rfl, hb⟩; have F0 : Hid (Blk w1 w.heap.size (gvs h (.slice da ds.length dc) nx (.slice pa ps.length pc) tk rc)) := F0.out.below hb F0.out.lt; have FB : Hid (Below w.heap.size w w1) := FB.out.trans (hb.mono FB.out.size); clear hb; have x0 := F0.out.c 0 _ rfl; have x1 := F0.out.c 1 _ rfl; have x2 := F0.out.c 2 _ rfl; have x3 := F0.out.c 3 _ rfl; have x4 := F0.out.c 4 _ rfl; have x5 := F0.out.c 5 _ rfl; have x6 := F0.out.c 6 _ rfl; have x7 := F0.out.c 7 _ rfl; have x8 := F0.out.c 8 _ rfl; have x9 := F0.out.c 9 _ rfl; have x10 := F0.out.c 10 _ rfl; have x11 := F0.out.c 11 _ rfl; have x12 := F0.out.c 12 _ rfl; have x13 := F0.out.c 13 _ rfl; have x14 := F0.out.c 14 _ rfl; have x15 := F0.out.c 15 _ rfl; have x16 := F0.out.c 16 _ rfl)
  by_cases n1 : (ds.length : Int) < 1
  case pos =>
    have HR : Hid ((2 : Int) = r) := by
      have q := HR.out
      rw [if_neg (by rw [inB_iff]; omega)] at q
      exact q
    have b1 : decide ((ds.length : Int) < 1) = true := decide_eq_true n1
    clear n1
    go_wp2_with fail
    go_ret
    exact ⟨ret_int HR.out, FB.out⟩
  by_cases n3 : 3 < (ds.length : Int)
  case pos =>
    have HR : Hid ((2 : Int) = r) := by
      have q := HR.out
      rw [if_neg (by rw [inB_iff]; omega)] at q
      exact q
    have b1 : decide ((ds.length : Int) < 1) = false := decide_eq_false n1
    have b3 : decide (3 < (ds.length : Int)) = true := decide_eq_true n3
    clear n1 n3
    go_wp2_with fail
    go_ret
    exact ⟨ret_int HR.out, FB.out⟩
  have HR : Hid ((if Hs.decks h ds = 0 then (if Hs.led h ⟨nx, ps⟩ = 0 then (if awayB ds.length ps = true then 1 else if inB tk 0 1000000000000000 = true then 0 else 3) else Hs.led h ⟨nx, ps⟩) else Hs.decks h ds) = r) := by
    have q := HR.out
    rw [if_pos (by rw [inB_iff]; omega)] at q
    exact q
  have b1 : decide ((ds.length : Int) < 1) = false := decide_eq_false n1
  have b3 : decide (3 < (ds.length : Int)) = false := decide_eq_false n3
  go_wp2_with fail
  clear x0 x1 x2 x3 x4 x5 x6 x7 x8 x9 x10 x11 x12 x13 x14 x15 x16
  go_loopw [4] (fun ii wr => ∃ i : Nat, ii = .int .i64 i ∧ i ≤ ds.length ∧ (∀ (j : Nat) e, j < i → ds[j]? = some e → Hs.deck h e = 0) ∧ Blk wr w.heap.size (gvs h (.slice da ds.length dc) nx (.slice pa ps.length pc) tk rc) ∧ Below w.heap.size w wr) (fun ii _ => ds.length - (intOf ii).toNat)
  case atStart => exact ⟨0, rfl, by omega, fun j q hj => absurd hj (by omega), F0.out, FB.out⟩
  case round =>
    obtain ⟨i, rfl, hi, hok, h0, h1⟩ := hrel
    have HOK : Hid (∀ (j : Nat) e, j < i → ds[j]? = some e → Hs.deck h e = 0) := hok
    have F0 : Hid (Blk wr w.heap.size (gvs h (.slice da ds.length dc) nx (.slice pa ps.length pc) tk rc)) := h0
    have FB : Hid (Below w.heap.size w wr) := h1
    clear hok h0 h1
    by_cases hlt : i < ds.length
    · obtain ⟨d, hd⟩ : ∃ d, ds[i]? = some d := ⟨_, List.getElem?_eq_getElem hlt⟩
      have FS : Hid (Hs.decks h ds = if Hs.deck h d = 0 then Hs.decks h (ds.drop (i + 1)) else Hs.deck h d) := decks_step hd HOK.out
      have HOK' : Hid (Hs.deck h d = 0 → ∀ (j : Nat) e, j < i + 1 → ds[j]? = some e → Hs.deck h e = 0) := by
        intro z j e hj he
        by_cases ej : j = i
        · subst ej
          rw [hd] at he
          cases he
          exact z
        · exact HOK.out j e (by omega) he
      have HBAD : Hid (∀ c, c ≠ 0 → Hs.deck h d = c → c = r) := by
        intro c cz hc
        have q := FS.out
        rw [hc, if_neg cz] at q
        have z := HR.out
        rw [q, if_neg cz] at z
        exact z
      rcases HD.out with hz | ⟨b, o, ha, hbl, h13⟩
      · rw [hz] at hlt; simp at hlt
      subst ha
      obtain ⟨c0, c1, c2, c3, c4, c5, c6, c7, c8, c9, c10, c11, c12⟩ := (h13 i d hd).below FB.out hbl
      clear h13 hd HOK FS
      have x0 := F0.out.c 0 _ rfl
      have x1 := F0.out.c 1 _ rfl
      have x2 := F0.out.c 2 _ rfl
      have x3 := F0.out.c 3 _ rfl
      have x4 := F0.out.c 4 _ rfl
      have x5 := F0.out.c 5 _ rfl
      have x6 := F0.out.c 6 _ rfl
      have x7 := F0.out.c 7 _ rfl
      have x8 := F0.out.c 8 _ rfl
      have x9 := F0.out.c 9 _ rfl
      have x10 := F0.out.c 10 _ rfl
      have x11 := F0.out.c 11 _ rfl
      have x12 := F0.out.c 12 _ rfl
      have x13 := F0.out.c 13 _ rfl
      have x14 := F0.out.c 14 _ rfl
      have x15 := F0.out.c 15 _ rfl
      have x16 := F0.out.c 16 _ rfl
      go_upto_region 10 with fail
      obtain ⟨db, hdb⟩ : ∃ db, db = wr.heap.size := ⟨_, rfl⟩
      obtain ⟨W1, hW1⟩ : ∃ W1, W1 = wr.alloc (.cells #[.int .i64 d.sh.lo.pos, .int .i64 d.sh.lo.vel, .int .i64 d.sh.lo.door, .int .i64 d.sh.up.pos, .int .i64 d.sh.up.vel, .int .i64 d.sh.up.door, .int .i64 d.sp.l.lo, .int .i64 d.sp.l.hi, .int .i64 d.sp.u.lo, .int .i64 d.sp.u.hi, .int .i64 d.pl, .int .i64 d.pu, .bool d.hd] 82) := ⟨_, rfl⟩
      have F0 : Hid (Blk W1 w.heap.size (gvs h (.slice (some ⟨b, o, none⟩) ds.length dc) nx (.slice pa ps.length pc) tk rc)) := by rw [hW1]; exact F0.out.alloc _
      have FD : Hid (Blk W1 db (cellsD d)) := by rw [hW1]; exact Blk.at_ wr #[.int .i64 d.sh.lo.pos, .int .i64 d.sh.lo.vel, .int .i64 d.sh.lo.door, .int .i64 d.sh.up.pos, .int .i64 d.sh.up.vel, .int .i64 d.sh.up.door, .int .i64 d.sp.l.lo, .int .i64 d.sp.l.hi, .int .i64 d.sp.u.lo, .int .i64 d.sp.u.hi, .int .i64 d.pl, .int .i64 d.pu, .bool d.hd] _ _ hdb
      have FB : Hid (Below w.heap.size w W1) := by rw [hW1]; exact FB.out.alloc FB.out.size _
      rw [← hW1, ← hdb]
      clear hW1 hdb c0 c1 c2 c3 c4 c5 c6 c7 c8 c9 c10 c11 c12
      have x0 := F0.out.c 0 _ rfl
      have x1 := F0.out.c 1 _ rfl
      have x2 := F0.out.c 2 _ rfl
      have x3 := F0.out.c 3 _ rfl
      have x4 := F0.out.c 4 _ rfl
      have x5 := F0.out.c 5 _ rfl
      have x6 := F0.out.c 6 _ rfl
      have x7 := F0.out.c 7 _ rfl
      have x8 := F0.out.c 8 _ rfl
      have x9 := F0.out.c 9 _ rfl
      have x10 := F0.out.c 10 _ rfl
      have x11 := F0.out.c 11 _ rfl
      have x12 := F0.out.c 12 _ rfl
      have x13 := F0.out.c 13 _ rfl
      have x14 := F0.out.c 14 _ rfl
      have x15 := F0.out.c 15 _ rfl
      have x16 := F0.out.c 16 _ rfl
      have y0 := FD.out.c 0 _ rfl
      have y1 := FD.out.c 1 _ rfl
      have y2 := FD.out.c 2 _ rfl
      have y3 := FD.out.c 3 _ rfl
      have y4 := FD.out.c 4 _ rfl
      have y5 := FD.out.c 5 _ rfl
      have y6 := FD.out.c 6 _ rfl
      have y7 := FD.out.c 7 _ rfl
      have y8 := FD.out.c 8 _ rfl
      have y9 := FD.out.c 9 _ rfl
      have y10 := FD.out.c 10 _ rfl
      have y11 := FD.out.c 11 _ rfl
      have y12 := FD.out.c 12 _ rfl
      go_upto_region 11 with (go_at_call 35; refine (specShaftFault_any h d.sh _).mono ?_; rintro e w2 ⟨rfl, hb⟩; have F0 : Hid (Blk w2 w.heap.size (gvs h (.slice (some ⟨b, o, none⟩) ds.length dc) nx (.slice pa ps.length pc) tk rc)) := F0.out.below hb F0.out.lt; have FD : Hid (Blk w2 db (cellsD d)) := FD.out.below hb FD.out.lt; have FB : Hid (Below w.heap.size w w2) := FB.out.trans (hb.mono FB.out.size); clear hb; have x0 := F0.out.c 0 _ rfl; have x1 := F0.out.c 1 _ rfl; have x2 := F0.out.c 2 _ rfl; have x3 := F0.out.c 3 _ rfl; have x4 := F0.out.c 4 _ rfl; have x5 := F0.out.c 5 _ rfl; have x6 := F0.out.c 6 _ rfl; have x7 := F0.out.c 7 _ rfl; have x8 := F0.out.c 8 _ rfl; have x9 := F0.out.c 9 _ rfl; have x10 := F0.out.c 10 _ rfl; have x11 := F0.out.c 11 _ rfl; have x12 := F0.out.c 12 _ rfl; have x13 := F0.out.c 13 _ rfl; have x14 := F0.out.c 14 _ rfl; have x15 := F0.out.c 15 _ rfl; have x16 := F0.out.c 16 _ rfl; have y0 := FD.out.c 0 _ rfl; have y1 := FD.out.c 1 _ rfl; have y2 := FD.out.c 2 _ rfl; have y3 := FD.out.c 3 _ rfl; have y4 := FD.out.c 4 _ rfl; have y5 := FD.out.c 5 _ rfl; have y6 := FD.out.c 6 _ rfl; have y7 := FD.out.c 7 _ rfl; have y8 := FD.out.c 8 _ rfl; have y9 := FD.out.c 9 _ rfl; have y10 := FD.out.c 10 _ rfl; have y11 := FD.out.c 11 _ rfl; have y12 := FD.out.c 12 _ rfl)
      by_cases k1 : h.shaft d.sh = 0
      case neg =>
        have hn : (h.shaft d.sh != 0) = true := by simpa using k1
        have z : Hs.deck h d = h.shaft d.sh := by unfold Hs.deck; rw [if_neg k1]
        have HZ : Hid (h.shaft d.sh = r) := HBAD.out _ k1 z
        clear k1 z
        go_wp2_with fail
        go_ret
        exact ⟨ret_int HZ.out, FB.out⟩
      have hn1 : (h.shaft d.sh != 0) = false := by simpa using k1
      go_upto_region 14 with (go_at_call 36; refine (specSpansFault_any h d.sp _).mono ?_; rintro e w2 ⟨rfl, hb⟩; have F0 : Hid (Blk w2 w.heap.size (gvs h (.slice (some ⟨b, o, none⟩) ds.length dc) nx (.slice pa ps.length pc) tk rc)) := F0.out.below hb F0.out.lt; have FD : Hid (Blk w2 db (cellsD d)) := FD.out.below hb FD.out.lt; have FB : Hid (Below w.heap.size w w2) := FB.out.trans (hb.mono FB.out.size); clear hb; have x0 := F0.out.c 0 _ rfl; have x1 := F0.out.c 1 _ rfl; have x2 := F0.out.c 2 _ rfl; have x3 := F0.out.c 3 _ rfl; have x4 := F0.out.c 4 _ rfl; have x5 := F0.out.c 5 _ rfl; have x6 := F0.out.c 6 _ rfl; have x7 := F0.out.c 7 _ rfl; have x8 := F0.out.c 8 _ rfl; have x9 := F0.out.c 9 _ rfl; have x10 := F0.out.c 10 _ rfl; have x11 := F0.out.c 11 _ rfl; have x12 := F0.out.c 12 _ rfl; have x13 := F0.out.c 13 _ rfl; have x14 := F0.out.c 14 _ rfl; have x15 := F0.out.c 15 _ rfl; have x16 := F0.out.c 16 _ rfl; have y0 := FD.out.c 0 _ rfl; have y1 := FD.out.c 1 _ rfl; have y2 := FD.out.c 2 _ rfl; have y3 := FD.out.c 3 _ rfl; have y4 := FD.out.c 4 _ rfl; have y5 := FD.out.c 5 _ rfl; have y6 := FD.out.c 6 _ rfl; have y7 := FD.out.c 7 _ rfl; have y8 := FD.out.c 8 _ rfl; have y9 := FD.out.c 9 _ rfl; have y10 := FD.out.c 10 _ rfl; have y11 := FD.out.c 11 _ rfl; have y12 := FD.out.c 12 _ rfl)
      by_cases k2 : Hs.spans h d.sp = 0
      case neg =>
        have hn : (Hs.spans h d.sp != 0) = true := by simpa using k2
        have z : Hs.deck h d = Hs.spans h d.sp := by unfold Hs.deck; rw [if_pos k1, if_neg k2]
        have HZ : Hid (Hs.spans h d.sp = r) := HBAD.out _ k2 z
        clear k1 k2 z
        go_wp2_with fail
        go_ret
        exact ⟨ret_int HZ.out, FB.out⟩
      have hn2 : (Hs.spans h d.sp != 0) = false := by simpa using k2
      have kd : Hs.deck h d = (if inB d.pl 0 2 = true ∧ inB d.pu 0 2 = true then (if phB d = true then 1 else 0) else 3) := by unfold Hs.deck; rw [if_pos k1, if_pos k2]
      have KD : Hid (Hs.deck h d = (if inB d.pl 0 2 = true ∧ inB d.pu 0 2 = true then (if phB d = true then 1 else 0) else 3)) := kd
      clear k1 k2 kd
      go_upto_region 16 with fail
      cases p1 : inB d.pl 0 2
      · have HZ : Hid ((3 : Int) = r) := HBAD.out 3 (by omega) (by rw [KD.out, if_neg (by rw [p1]; simp)])
        go_wp2_with (go_at_call 37; refine (l1In_any _ _ _ _).mono ?_; rintro e w' ⟨rfl, hw⟩; obtain rfl := hw.symm; clear hw)
        go_ret
        exact ⟨ret_int HZ.out, FB.out⟩
      cases p2 : inB d.pu 0 2
      · have HZ : Hid ((3 : Int) = r) := HBAD.out 3 (by omega) (by rw [KD.out, if_neg (by rw [p2]; simp)])
        go_wp2_with (go_at_call 37; refine (l1In_any _ _ _ _).mono ?_; rintro e w' ⟨rfl, hw⟩; obtain rfl := hw.symm; clear hw)
        go_ret
        exact ⟨ret_int HZ.out, FB.out⟩
      have KD : Hid (Hs.deck h d = (if phB d = true then 1 else 0)) := by
        have q := KD.out
        rw [if_pos ⟨p1, p2⟩] at q
        exact q
      obtain ⟨r1, hr1⟩ : ∃ r1 : Int, (if d.sh.lo.door ≠ 0 ∧ d.pl = 0 then (1 : Int) else 0) = r1 := ⟨_, rfl⟩
      obtain ⟨r2, hr2⟩ : ∃ r2 : Int, (if d.sh.up.door ≠ 0 ∧ d.pu = 0 then (1 : Int) else 0) = r2 := ⟨_, rfl⟩
      have H1 : Hid ((if d.sh.lo.door ≠ 0 ∧ d.pl = 0 then (1 : Int) else 0) = r1) := hr1
      have H2 : Hid ((if d.sh.up.door ≠ 0 ∧ d.pu = 0 then (1 : Int) else 0) = r2) := hr2
      have KP : Hid (phB d = (decide (r1 ≠ 0) || decide (r2 ≠ 0))) := by
        have q := phB_iff (d := d)
        rw [hr1, hr2] at q
        exact q
      clear hr1 hr2
      go_upto_region 18 with (go_at_call 37; refine (l1In_any _ _ _ _).mono ?_; rintro e w' ⟨rfl, hw⟩; obtain rfl := hw.symm; clear hw)
      by_cases q1 : r1 = 0
      case neg =>
        have hq : (r1 != 0) = true := by simpa using q1
        have HZ : Hid ((1 : Int) = r) := HBAD.out 1 (by omega) (by rw [KD.out, KP.out]; simp [q1])
        clear q1
        go_wp2_with (go_at_call 38; refine (l8Phase_any _ _ (by assumption) _).mono ?_; (first | rw [H1.out] | rw [H2.out]); rintro e w2 ⟨rfl, hb⟩; have F0 : Hid (Blk w2 w.heap.size (gvs h (.slice (some ⟨b, o, none⟩) ds.length dc) nx (.slice pa ps.length pc) tk rc)) := F0.out.below hb F0.out.lt; have FD : Hid (Blk w2 db (cellsD d)) := FD.out.below hb FD.out.lt; have FB : Hid (Below w.heap.size w w2) := FB.out.trans (hb.mono FB.out.size); clear hb; have x0 := F0.out.c 0 _ rfl; have x1 := F0.out.c 1 _ rfl; have x2 := F0.out.c 2 _ rfl; have x3 := F0.out.c 3 _ rfl; have x4 := F0.out.c 4 _ rfl; have x5 := F0.out.c 5 _ rfl; have x6 := F0.out.c 6 _ rfl; have x7 := F0.out.c 7 _ rfl; have x8 := F0.out.c 8 _ rfl; have x9 := F0.out.c 9 _ rfl; have x10 := F0.out.c 10 _ rfl; have x11 := F0.out.c 11 _ rfl; have x12 := F0.out.c 12 _ rfl; have x13 := F0.out.c 13 _ rfl; have x14 := F0.out.c 14 _ rfl; have x15 := F0.out.c 15 _ rfl; have x16 := F0.out.c 16 _ rfl; have y0 := FD.out.c 0 _ rfl; have y1 := FD.out.c 1 _ rfl; have y2 := FD.out.c 2 _ rfl; have y3 := FD.out.c 3 _ rfl; have y4 := FD.out.c 4 _ rfl; have y5 := FD.out.c 5 _ rfl; have y6 := FD.out.c 6 _ rfl; have y7 := FD.out.c 7 _ rfl; have y8 := FD.out.c 8 _ rfl; have y9 := FD.out.c 9 _ rfl; have y10 := FD.out.c 10 _ rfl; have y11 := FD.out.c 11 _ rfl; have y12 := FD.out.c 12 _ rfl)
        go_ret
        exact ⟨ret_int HZ.out, FB.out⟩
      have hq1 : (r1 != 0) = false := by simpa using q1
      by_cases q2 : r2 = 0
      case neg =>
        have hq : (r2 != 0) = true := by simpa using q2
        have HZ : Hid ((1 : Int) = r) := HBAD.out 1 (by omega) (by rw [KD.out, KP.out]; simp [q2])
        clear q1 q2
        go_wp2_with (go_at_call 38; refine (l8Phase_any _ _ (by assumption) _).mono ?_; (first | rw [H1.out] | rw [H2.out]); rintro e w2 ⟨rfl, hb⟩; have F0 : Hid (Blk w2 w.heap.size (gvs h (.slice (some ⟨b, o, none⟩) ds.length dc) nx (.slice pa ps.length pc) tk rc)) := F0.out.below hb F0.out.lt; have FD : Hid (Blk w2 db (cellsD d)) := FD.out.below hb FD.out.lt; have FB : Hid (Below w.heap.size w w2) := FB.out.trans (hb.mono FB.out.size); clear hb; have x0 := F0.out.c 0 _ rfl; have x1 := F0.out.c 1 _ rfl; have x2 := F0.out.c 2 _ rfl; have x3 := F0.out.c 3 _ rfl; have x4 := F0.out.c 4 _ rfl; have x5 := F0.out.c 5 _ rfl; have x6 := F0.out.c 6 _ rfl; have x7 := F0.out.c 7 _ rfl; have x8 := F0.out.c 8 _ rfl; have x9 := F0.out.c 9 _ rfl; have x10 := F0.out.c 10 _ rfl; have x11 := F0.out.c 11 _ rfl; have x12 := F0.out.c 12 _ rfl; have x13 := F0.out.c 13 _ rfl; have x14 := F0.out.c 14 _ rfl; have x15 := F0.out.c 15 _ rfl; have x16 := F0.out.c 16 _ rfl; have y0 := FD.out.c 0 _ rfl; have y1 := FD.out.c 1 _ rfl; have y2 := FD.out.c 2 _ rfl; have y3 := FD.out.c 3 _ rfl; have y4 := FD.out.c 4 _ rfl; have y5 := FD.out.c 5 _ rfl; have y6 := FD.out.c 6 _ rfl; have y7 := FD.out.c 7 _ rfl; have y8 := FD.out.c 8 _ rfl; have y9 := FD.out.c 9 _ rfl; have y10 := FD.out.c 10 _ rfl; have y11 := FD.out.c 11 _ rfl; have y12 := FD.out.c 12 _ rfl)
        go_ret
        exact ⟨ret_int HZ.out, FB.out⟩
      have hq2 : (r2 != 0) = false := by simpa using q2
      have HN : Hid (∀ (j : Nat) e, j < i + 1 → ds[j]? = some e → Hs.deck h e = 0) := HOK'.out (by rw [KD.out, KP.out]; simp [q1, q2])
      clear q1 q2
      go_wp2_with (go_at_call 38; refine (l8Phase_any _ _ (by assumption) _).mono ?_; (first | rw [H1.out] | rw [H2.out]); rintro e w2 ⟨rfl, hb⟩; have F0 : Hid (Blk w2 w.heap.size (gvs h (.slice (some ⟨b, o, none⟩) ds.length dc) nx (.slice pa ps.length pc) tk rc)) := F0.out.below hb F0.out.lt; have FD : Hid (Blk w2 db (cellsD d)) := FD.out.below hb FD.out.lt; have FB : Hid (Below w.heap.size w w2) := FB.out.trans (hb.mono FB.out.size); clear hb; have x0 := F0.out.c 0 _ rfl; have x1 := F0.out.c 1 _ rfl; have x2 := F0.out.c 2 _ rfl; have x3 := F0.out.c 3 _ rfl; have x4 := F0.out.c 4 _ rfl; have x5 := F0.out.c 5 _ rfl; have x6 := F0.out.c 6 _ rfl; have x7 := F0.out.c 7 _ rfl; have x8 := F0.out.c 8 _ rfl; have x9 := F0.out.c 9 _ rfl; have x10 := F0.out.c 10 _ rfl; have x11 := F0.out.c 11 _ rfl; have x12 := F0.out.c 12 _ rfl; have x13 := F0.out.c 13 _ rfl; have x14 := F0.out.c 14 _ rfl; have x15 := F0.out.c 15 _ rfl; have x16 := F0.out.c 16 _ rfl; have y0 := FD.out.c 0 _ rfl; have y1 := FD.out.c 1 _ rfl; have y2 := FD.out.c 2 _ rfl; have y3 := FD.out.c 3 _ rfl; have y4 := FD.out.c 4 _ rfl; have y5 := FD.out.c 5 _ rfl; have y6 := FD.out.c 6 _ rfl; have y7 := FD.out.c 7 _ rfl; have y8 := FD.out.c 8 _ rfl; have y9 := FD.out.c 9 _ rfl; have y10 := FD.out.c 10 _ rfl; have y11 := FD.out.c 11 _ rfl; have y12 := FD.out.c 12 _ rfl)
      go_roundw
      case rel => exact ⟨i + 1, by simp, by omega, HN.out, F0.out, FB.out⟩
      case measure => simp [intOf]; omega
    · have ei : i = ds.length := by omega
      subst ei
      have hz : Hs.decks h ds = 0 := decks_all (fun j e he => HOK.out j e (List.getElem?_eq_some_iff.1 he).1 he)
      have HR : Hid ((if Hs.led h ⟨nx, ps⟩ = 0 then (if awayB ds.length ps = true then 1 else if inB tk 0 1000000000000000 = true then 0 else 3) else Hs.led h ⟨nx, ps⟩) = r) := by
        have q := HR.out
        rw [if_pos hz] at q
        exact q
      clear hz HOK hlt hi n1 n3
      have x0 := F0.out.c 0 _ rfl
      have x1 := F0.out.c 1 _ rfl
      have x2 := F0.out.c 2 _ rfl
      have x3 := F0.out.c 3 _ rfl
      have x4 := F0.out.c 4 _ rfl
      have x5 := F0.out.c 5 _ rfl
      have x6 := F0.out.c 6 _ rfl
      have x7 := F0.out.c 7 _ rfl
      have x8 := F0.out.c 8 _ rfl
      have x9 := F0.out.c 9 _ rfl
      have x10 := F0.out.c 10 _ rfl
      have x11 := F0.out.c 11 _ rfl
      have x12 := F0.out.c 12 _ rfl
      have x13 := F0.out.c 13 _ rfl
      have x14 := F0.out.c 14 _ rfl
      have x15 := F0.out.c 15 _ rfl
      have x16 := F0.out.c 16 _ rfl
      go_upto_region 21 with (go_at_call 39; refine (specLedgerFault_any h ⟨nx, ps⟩ pa pc hlp _ ((HP.out.below FB.out (Nat.le_refl _)).mono FB.out.size)).mono ?_; rintro e w2 ⟨rfl, hb⟩; have F0 : Hid (Blk w2 w.heap.size (gvs h (.slice da ds.length dc) nx (.slice pa ps.length pc) tk rc)) := F0.out.below hb F0.out.lt; have FB : Hid (Below w.heap.size w w2) := FB.out.trans (hb.mono FB.out.size); clear hb; have x0 := F0.out.c 0 _ rfl; have x1 := F0.out.c 1 _ rfl; have x2 := F0.out.c 2 _ rfl; have x3 := F0.out.c 3 _ rfl; have x4 := F0.out.c 4 _ rfl; have x5 := F0.out.c 5 _ rfl; have x6 := F0.out.c 6 _ rfl; have x7 := F0.out.c 7 _ rfl; have x8 := F0.out.c 8 _ rfl; have x9 := F0.out.c 9 _ rfl; have x10 := F0.out.c 10 _ rfl; have x11 := F0.out.c 11 _ rfl; have x12 := F0.out.c 12 _ rfl; have x13 := F0.out.c 13 _ rfl; have x14 := F0.out.c 14 _ rfl; have x15 := F0.out.c 15 _ rfl; have x16 := F0.out.c 16 _ rfl)
      by_cases k3 : Hs.led h ⟨nx, ps⟩ = 0
      case neg =>
        have hn : (Hs.led h ⟨nx, ps⟩ != 0) = true := by simpa using k3
        have HR : Hid (Hs.led h ⟨nx, ps⟩ = r) := by
          have q := HR.out
          rw [if_neg k3] at q
          exact q
        clear k3
        go_wp2_with fail
        go_ret
        exact ⟨ret_int HR.out, FB.out⟩
      have hn3 : (Hs.led h ⟨nx, ps⟩ != 0) = false := by simpa using k3
      have HR : Hid ((if awayB ds.length ps = true then 1 else if inB tk 0 1000000000000000 = true then 0 else 3) = r) := by
        have q := HR.out
        rw [if_pos k3] at q
        exact q
      clear k3
      go_wp2_with fail
      clear x0 x1 x2 x3 x4 x5 x6 x7 x8 x9 x10 x11 x12 x13 x14 x15 x16
      go_loopw [9] (fun ii wr => ∃ i : Nat, ii = .int .i64 i ∧ i ≤ ps.length ∧ (∀ (j : Nat) q, j < i → ps[j]? = some q → q.sh < (ds.length : Int)) ∧ Blk wr w.heap.size (gvs h (.slice da ds.length dc) nx (.slice pa ps.length pc) tk rc) ∧ Below w.heap.size w wr) (fun ii _ => ps.length - (intOf ii).toNat)
      case atStart => exact ⟨0, rfl, by omega, fun j q hj => absurd hj (by omega), F0.out, FB.out⟩
      case round =>
        obtain ⟨i, rfl, hi, hok, h0, h1⟩ := hrel
        have HOK : Hid (∀ (j : Nat) q, j < i → ps[j]? = some q → q.sh < (ds.length : Int)) := hok
        have F0 : Hid (Blk wr w.heap.size (gvs h (.slice da ds.length dc) nx (.slice pa ps.length pc) tk rc)) := h0
        have FB : Hid (Below w.heap.size w wr) := h1
        clear hok h0 h1
        have x0 := F0.out.c 0 _ rfl
        have x1 := F0.out.c 1 _ rfl
        have x2 := F0.out.c 2 _ rfl
        have x3 := F0.out.c 3 _ rfl
        have x4 := F0.out.c 4 _ rfl
        have x5 := F0.out.c 5 _ rfl
        have x6 := F0.out.c 6 _ rfl
        have x7 := F0.out.c 7 _ rfl
        have x8 := F0.out.c 8 _ rfl
        have x9 := F0.out.c 9 _ rfl
        have x10 := F0.out.c 10 _ rfl
        have x11 := F0.out.c 11 _ rfl
        have x12 := F0.out.c 12 _ rfl
        have x13 := F0.out.c 13 _ rfl
        have x14 := F0.out.c 14 _ rfl
        have x15 := F0.out.c 15 _ rfl
        have x16 := F0.out.c 16 _ rfl
        by_cases hlt : i < ps.length
        · obtain ⟨p, hp⟩ : ∃ p, ps[i]? = some p := ⟨_, List.getElem?_eq_getElem hlt⟩
          rcases HP.out with hz | ⟨b, o, ha, hbl, h7⟩
          · rw [hz] at hlt; simp at hlt
          subst ha
          have FQ : Hid (P7 wr b (o + i * 7) p) := (h7 i p hp).below FB.out hbl
          by_cases kc : (ds.length : Int) ≤ p.sh
          · have hc : decide ((ds.length : Int) ≤ p.sh) = true := decide_eq_true kc
            have HR : Hid ((1 : Int) = r) := by
              have q := HR.out
              rw [away_step hp kc, if_pos rfl] at q
              exact q
            clear h7 hp kc
            go_wp2_with fail
            have F0 : Hid (Blk wr.drew w.heap.size (gvs h (.slice da ds.length dc) nx (.slice (some ⟨b, o, none⟩) ps.length pc) tk rc)) := F0.out.below (Below.refl _ _).drew F0.out.lt
            have FB : Hid (Below w.heap.size w wr.drew) := FB.out.drew
            have FQ : Hid (P7 wr.drew b (o + i * 7) p) := FQ.out.below (Below.refl _ _).drew FQ.out.lt
            have m0 := F0.out.c 12 _ rfl
            have m1 := F0.out.c 14 _ rfl
            have m2 := FQ.out.c3
            refine wp_region_held_drew (S := (fun w'' => w''.cell? ⟨w.heap.size, 12, none⟩ = some (.slice da ds.length dc) ∧ w''.cell? ⟨w.heap.size, 14, none⟩ = some (.slice (some ⟨b, o, none⟩) ps.length pc) ∧ w''.cell? ⟨b, o + i * 7 + 3, none⟩ = some (.int .i64 p.sh))) (by kernel_rfl) (by (try dsimp only); first | exact ⟨m0, m1, m2⟩ | go_keep) (fun hHeld => ?_)
            obtain ⟨v_1, hw1⟩ : ∃ v_1, v_1 = wr.drew := ⟨_, rfl⟩
            have F0 : Hid (Blk v_1 w.heap.size (gvs h (.slice da ds.length dc) nx (.slice (some ⟨b, o, none⟩) ps.length pc) tk rc)) := by rw [hw1]; exact F0.out
            have FB : Hid (Below w.heap.size w v_1) := by rw [hw1]; exact FB.out
            have FQ : Hid (P7 v_1 b (o + i * 7) p) := by rw [hw1]; exact FQ.out
            rw [← hw1] at hHeld ⊢
            clear hw1
            have m0 := F0.out.c 12 _ rfl
            have m1 := F0.out.c 14 _ rfl
            have m2 := FQ.out.c3
            refine tkz 0 rfl ?_
            refine tkz 1 rfl ?_
            refine tkz 2 rfl ?_
            refine tkz 3 rfl ?_
            refine tkz 4 rfl ?_
            refine tkz 5 rfl ?_
            refine tkz 6 rfl ?_
            refine tkz 7 rfl ?_
            refine tkz 8 rfl ?_
            refine wpAnyH_ready (rs := [9]) (by kernel_rfl) (by simp) ?_
            refine (AllReadyH.cons rfl (fun K hK => ?_) AllReadyH.nil)
            go_simp
            refine hK.out _ _ (by (try dsimp only); first | exact ⟨m0, m1, m2⟩ | go_keep) (fun hHeld => ?_)
            clear hK K
            try simp only [Act.put, List.getElem_toArray, List.getElem_cons_succ, List.getElem_cons_zero, List.setIfInBounds_toArray, List.set_cons_zero, List.set_cons_succ]
            refine tkz 10 rfl ?_
            refine wpAnyH_done (by kernel_rfl) ?_ _
            go_wp2_with fail
            go_ret
            exact ⟨ret_int HR.out, FB.out⟩
          · have hc : decide ((ds.length : Int) ≤ p.sh) = false := decide_eq_false kc
            have HN : Hid (∀ (j : Nat) q, j < i + 1 → ps[j]? = some q → q.sh < (ds.length : Int)) := by
              intro j q hj hq
              by_cases ej : j = i
              · subst ej
                rw [hp] at hq
                cases hq
                omega
              · exact HOK.out j q (by omega) hq
            clear h7 hp kc
            go_wp2_with fail
            have F0 : Hid (Blk wr.drew w.heap.size (gvs h (.slice da ds.length dc) nx (.slice (some ⟨b, o, none⟩) ps.length pc) tk rc)) := F0.out.below (Below.refl _ _).drew F0.out.lt
            have FB : Hid (Below w.heap.size w wr.drew) := FB.out.drew
            have FQ : Hid (P7 wr.drew b (o + i * 7) p) := FQ.out.below (Below.refl _ _).drew FQ.out.lt
            have m0 := F0.out.c 12 _ rfl
            have m1 := F0.out.c 14 _ rfl
            have m2 := FQ.out.c3
            refine wp_region_held_drew (S := (fun w'' => w''.cell? ⟨w.heap.size, 12, none⟩ = some (.slice da ds.length dc) ∧ w''.cell? ⟨w.heap.size, 14, none⟩ = some (.slice (some ⟨b, o, none⟩) ps.length pc) ∧ w''.cell? ⟨b, o + i * 7 + 3, none⟩ = some (.int .i64 p.sh))) (by kernel_rfl) (by (try dsimp only); first | exact ⟨m0, m1, m2⟩ | go_keep) (fun hHeld => ?_)
            obtain ⟨v_2, hw1⟩ : ∃ v_2, v_2 = wr.drew := ⟨_, rfl⟩
            have F0 : Hid (Blk v_2 w.heap.size (gvs h (.slice da ds.length dc) nx (.slice (some ⟨b, o, none⟩) ps.length pc) tk rc)) := by rw [hw1]; exact F0.out
            have FB : Hid (Below w.heap.size w v_2) := by rw [hw1]; exact FB.out
            have FQ : Hid (P7 v_2 b (o + i * 7) p) := by rw [hw1]; exact FQ.out
            rw [← hw1] at hHeld ⊢
            clear hw1
            have m0 := F0.out.c 12 _ rfl
            have m1 := F0.out.c 14 _ rfl
            have m2 := FQ.out.c3
            refine tkz 0 rfl ?_
            refine tkz 1 rfl ?_
            refine tkz 2 rfl ?_
            refine tkz 3 rfl ?_
            refine tkz 4 rfl ?_
            refine tkz 5 rfl ?_
            refine tkz 6 rfl ?_
            refine tkz 7 rfl ?_
            refine tkz 8 rfl ?_
            refine wpAnyH_ready (rs := [9]) (by kernel_rfl) (by simp) ?_
            refine (AllReadyH.cons rfl (fun K hK => ?_) AllReadyH.nil)
            go_simp
            refine hK.out _ _ (by (try dsimp only); first | exact ⟨m0, m1, m2⟩ | go_keep) (fun hHeld => ?_)
            clear hK K
            try simp only [Act.put, List.getElem_toArray, List.getElem_cons_succ, List.getElem_cons_zero, List.setIfInBounds_toArray, List.set_cons_zero, List.set_cons_succ]
            refine tkz 10 rfl ?_
            refine wpAnyH_done (by kernel_rfl) ?_ _
            go_wp2_with fail
            go_roundw
            case rel => exact ⟨i + 1, by simp, by omega, HN.out, F0.out, FB.out⟩
            case measure => simp [intOf]; omega
        · have ei : i = ps.length := by omega
          subst ei
          have hz : awayB ds.length ps = false := away_none HOK.out
          have HR : Hid ((if inB tk 0 1000000000000000 = true then (0 : Int) else 3) = r) := by
            have q := HR.out
            rw [hz, if_neg (by simp)] at q
            exact q
          clear hz HOK hlt hi
          cases k5 : inB tk 0 1000000000000000
          · have HR : Hid ((3 : Int) = r) := by
              have q := HR.out
              rw [k5, if_neg (by simp)] at q
              exact q
            go_wp2_with (go_at_call 37; refine (l1In_any _ _ _ _).mono ?_; rintro e w' ⟨rfl, hw⟩; obtain rfl := hw.symm; clear hw)
            go_ret
            exact ⟨ret_int HR.out, FB.out⟩
          · have HR : Hid ((0 : Int) = r) := by
              have q := HR.out
              rw [k5, if_pos rfl] at q
              exact q
            go_wp2_with (go_at_call 37; refine (l1In_any _ _ _ _).mono ?_; rintro e w' ⟨rfl, hw⟩; obtain rfl := hw.symm; clear hw)
            go_ret
            exact ⟨ret_int HR.out, FB.out⟩
end Go.Proofs.YtdkikijnjkoddaaGreat
