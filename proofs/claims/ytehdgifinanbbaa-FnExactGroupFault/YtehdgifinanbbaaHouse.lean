/-
  The house, in plain numbers.
-/
import Derived.Test.YtehdgifinanbbaaPlain
import Derived.Test.YtehdgifinanbbaaStopP
namespace Go.Proofs.Ytehdgifinanbbaa.Pl

/-- A house: its twelve numbers, in the order of the fields. -/
structure Hs where
  fl : Int
  gp : Int
  ln : Int
  rf : Int
  sp : Int
  pu : Int
  br : Int
  dr : Int
  lv : Int
  dO : Int
  ld : Int
  qu : Int

/-- Every number is within its bounds. -/
structure Hs.Ok (h : Hs) : Prop where
  fl1 : 2 ≤ h.fl
  fl2 : h.fl ≤ 12
  gp1 : 1 ≤ h.gp
  gp2 : h.gp ≤ 20000
  rf1 : 1 ≤ h.rf
  rf2 : h.rf ≤ 20000
  ln1 : 1 ≤ h.ln
  ln2 : h.ln ≤ 20000
  sp1 : 1 ≤ h.sp
  sp2 : h.sp ≤ 500
  pu1 : 1 ≤ h.pu
  pu2 : h.pu ≤ h.sp
  br1 : h.pu ≤ h.br
  br2 : h.br ≤ 500
  dr1 : 0 ≤ h.dr
  dr2 : h.dr ≤ h.pu - 1
  lv1 : 0 ≤ h.lv
  lv2 : h.lv ≤ 50
  do1 : 1 ≤ h.dO
  do2 : h.dO ≤ 20
  ld1 : 1 ≤ h.ld
  ld2 : h.ld ≤ 20
  qu1 : 1 ≤ h.qu
  qu2 : h.qu ≤ 40

def Hs.rangeB (h : Hs) : Bool :=
  inB h.fl 2 12 && (inB h.gp 1 20000 && (inB h.rf 1 20000 && (inB h.ln 1 20000 && (inB h.sp 1 500 && (inB h.pu 1 h.sp && (inB h.br h.pu 500 && (inB h.dr 0 (h.pu - 1) && (inB h.lv 0 50 && (inB h.dO 1 20 && (inB h.ld 1 20 && inB h.qu 1 40))))))))))
theorem Hs.ok_of {h : Hs} (e : h.rangeB = true) : h.Ok := by
  unfold Hs.rangeB at e
  simp only [Bool.and_eq_true, inB_iff] at e
  obtain ⟨⟨a1, a2⟩, ⟨b1, b2⟩, ⟨c1, c2⟩, ⟨d1, d2⟩, ⟨e1, e2⟩, ⟨f1, f2⟩, ⟨g1, g2⟩, ⟨i1, i2⟩, ⟨j1, j2⟩, ⟨k1, k2⟩, ⟨l1, l2⟩, m1, m2⟩ := e
  exact ⟨a1, a2, b1, b2, c1, c2, d1, d2, e1, e2, f1, f2, g1, g2, i1, i2, j1, j2, k1, k2, l1, l2, m1, m2⟩
theorem Hs.ok_iff {h : Hs} : h.rangeB = true ↔ h.Ok := by
  refine ⟨Hs.ok_of, fun o => ?_⟩
  unfold Hs.rangeB
  simp only [Bool.and_eq_true, inB_iff]
  exact ⟨⟨o.fl1, o.fl2⟩, ⟨o.gp1, o.gp2⟩, ⟨o.rf1, o.rf2⟩, ⟨o.ln1, o.ln2⟩, ⟨o.sp1, o.sp2⟩, ⟨o.pu1, o.pu2⟩, ⟨o.br1, o.br2⟩, ⟨o.dr1, o.dr2⟩, ⟨o.lv1, o.lv2⟩, ⟨o.do1, o.do2⟩, ⟨o.ld1, o.ld2⟩, o.qu1, o.qu2⟩

/-- How far apart floors must be. -/
def Hs.apart (h : Hs) : Int := h.ln + h.sp + stopP h.sp h.br + 2 * h.lv
/-- The fault of a house. -/
def Hs.fault (h : Hs) : Int := if h.rangeB = true then (if h.gp < h.apart ∨ h.rf < h.apart then 1 else 0) else 3
/-- The place of a floor or a refuge. -/
def Hs.level (h : Hs) (f : Int) : Int := if f < 0 then -h.rf else if h.fl ≤ f then (h.fl - 1) * h.gp + h.rf else f * h.gp
/-- What is free beyond a refuge. -/
def Hs.room (h : Hs) : Int := h.lv + h.sp + stopP h.sp h.br
def Hs.low (h : Hs) : Int := -h.rf - h.room
def Hs.high (h : Hs) : Int := (h.fl - 1) * h.gp + h.rf + h.room
def Hs.run (h : Hs) : Int := (h.high - h.low + h.sp - 1) / h.sp + (4 * h.sp + h.pu - 1) / h.pu + 10
def Hs.serve (h : Hs) : Int := 4 * h.run + 4 * h.dO + 20

theorem stop_small (s b : Int) (h1 : 1 ≤ s) (h2 : s ≤ 500) (h3 : 1 ≤ b) : 0 ≤ stopP s b ∧ stopP s b ≤ 4000000 := by
  obtain ⟨b1, b2, b3, b4, b5, b6, b7⟩ := stop_bds s b _ (by omega) (by omega) h3 rfl
  have hz : stopP 0 b = 0 := by unfold stopP; simp
  have hm := stop_le 0 s b (by omega) (by omega) h3
  rw [hz] at hm
  exact ⟨hm, by unfold stopP; omega⟩
theorem Hs.Ok.stop_bd {h : Hs} (o : h.Ok) : 0 ≤ stopP h.sp h.br ∧ stopP h.sp h.br ≤ 4000000 := by
  have h1 := o.sp1; have h2 := o.sp2; have h3 := o.pu1; have h4 := o.br1
  obtain ⟨b1, b2, b3, b4, b5, b6, b7⟩ := stop_bds h.sp h.br _ (by omega) (by omega) (by omega) rfl
  have hz : stopP 0 h.br = 0 := by unfold stopP; simp
  have hm := stop_le 0 h.sp h.br (by omega) (by omega) (by omega)
  rw [hz] at hm
  exact ⟨hm, by unfold stopP; omega⟩
theorem Hs.Ok.top_bd {h : Hs} (o : h.Ok) : 0 ≤ (h.fl - 1) * h.gp ∧ (h.fl - 1) * h.gp ≤ 220000 := by
  have h1 := o.fl1; have h2 := o.fl2; have h3 := o.gp1; have h4 := o.gp2
  have := mul_bd (X := 11) (Y := 20000) (x := h.fl - 1) (y := h.gp) (by omega) (by omega) (by omega) (by omega)
  omega
theorem Hs.Ok.floor_bd {h : Hs} (o : h.Ok) (f : Int) (f1 : 0 ≤ f) (f2 : f ≤ 12) : 0 ≤ f * h.gp ∧ f * h.gp ≤ 240000 := by
  have h3 := o.gp1; have h4 := o.gp2
  have := mul_bd (X := 12) (Y := 20000) (x := f) (y := h.gp) f1 f2 (by omega) (by omega)
  omega
theorem Hs.Ok.level_bd {h : Hs} (o : h.Ok) (f : Int) (f1 : -1 ≤ f) (f2 : f ≤ 12) : -20000 ≤ h.level f ∧ h.level f ≤ 240000 := by
  have h1 := o.rf1; have h2 := o.rf2
  obtain ⟨t1, t2⟩ := o.top_bd
  unfold Hs.level
  by_cases c1 : f < 0
  · rw [if_pos c1]; omega
  · obtain ⟨u1, u2⟩ := o.floor_bd f (by omega) f2
    rw [if_neg c1]
    by_cases c2 : h.fl ≤ f
    · rw [if_pos c2]; omega
    · rw [if_neg c2]; omega

theorem Hs.Ok.room_bd {h : Hs} (o : h.Ok) : 1 ≤ h.room ∧ h.room ≤ 4001000 := by
  obtain ⟨s1, s2⟩ := o.stop_bd
  have h1 := o.sp1; have h2 := o.sp2; have h8 := o.lv1; have h9 := o.lv2
  unfold Hs.room; omega

theorem Hs.fault_out {h : Hs} (e : h.rangeB = false) : h.fault = 3 := by unfold Hs.fault; rw [e]; simp
theorem Hs.fault_near {h : Hs} (e : h.rangeB = true) (n : h.gp < h.apart ∨ h.rf < h.apart) : h.fault = 1 := by unfold Hs.fault; rw [if_pos e, if_pos n]
theorem Hs.fault_ok {h : Hs} (e : h.rangeB = true) (n : ¬ (h.gp < h.apart ∨ h.rf < h.apart)) : h.fault = 0 := by unfold Hs.fault; rw [if_pos e, if_neg n]
theorem Hs.fault_zero {h : Hs} (e : h.fault = 0) : h.rangeB = true ∧ h.apart ≤ h.gp ∧ h.apart ≤ h.rf := by
  unfold Hs.fault at e
  by_cases hr : h.rangeB = true
  · rw [if_pos hr] at e
    by_cases hn : h.gp < h.apart ∨ h.rf < h.apart
    · rw [if_pos hn] at e; cases e
    · exact ⟨hr, by omega, by omega⟩
  · rw [if_neg hr] at e; cases e

theorem Hs.Ok.span_bd {h : Hs} (o : h.Ok) : 0 ≤ h.high - h.low ∧ h.high - h.low ≤ 9000000 := by
  obtain ⟨t1, t2⟩ := o.top_bd
  obtain ⟨m1, m2⟩ := o.room_bd
  have r1 := o.rf1; have r2 := o.rf2
  unfold Hs.high Hs.low
  omega
theorem up_bd (a b : Int) (h1 : 0 ≤ a) (h2 : 1 ≤ b) : 0 ≤ (a + b - 1) / b ∧ (a + b - 1) / b ≤ a + b - 1 := by
  refine ⟨Int.ediv_nonneg (by omega) (by omega), ?_⟩
  exact Int.ediv_le_self _ (by omega)
theorem Hs.Ok.up1_bd {h : Hs} (o : h.Ok) : 0 ≤ (h.high - h.low + h.sp - 1) / h.sp ∧ (h.high - h.low + h.sp - 1) / h.sp ≤ 9000500 := by
  have s1 := o.sp1; have s2 := o.sp2
  obtain ⟨a, b⟩ := o.span_bd
  have := up_bd (h.high - h.low) h.sp a s1
  omega
theorem Hs.Ok.up2_bd {h : Hs} (o : h.Ok) : 0 ≤ (4 * h.sp + h.pu - 1) / h.pu ∧ (4 * h.sp + h.pu - 1) / h.pu ≤ 2500 := by
  have s1 := o.sp1; have s2 := o.sp2; have p1 := o.pu1; have p2 := o.pu2
  have := up_bd (4 * h.sp) h.pu (by omega) p1
  omega
theorem Hs.Ok.run_bd {h : Hs} (o : h.Ok) : 10 ≤ h.run ∧ h.run ≤ 9003010 := by
  have a := o.up1_bd
  have b := o.up2_bd
  unfold Hs.run
  omega

def absI (a : Int) : Int := if a < 0 then -a else a
/-- How far a place is from a floor or refuge. -/
def Hs.dist (h : Hs) (p f : Int) : Int := absI (p - h.level f)
/-- r is the nearest floor or refuge below n, of two the lower. -/
structure Hs.NearTo (h : Hs) (p n r : Int) : Prop where
  lo : -1 ≤ r
  hi : r < n
  left : ∀ f, -1 ≤ f → f < r → h.dist p r < h.dist p f
  right : ∀ f, r < f → f < n → h.dist p r ≤ h.dist p f
theorem Hs.NearTo.start (h : Hs) (p : Int) : h.NearTo p 0 (-1) := ⟨by omega, by omega, fun f h1 h2 => by omega, fun f h1 h2 => by omega⟩
theorem Hs.NearTo.take {h : Hs} {p n r : Int} (a : h.NearTo p n r) (hn : 0 ≤ n) (hd : h.dist p n < h.dist p r) : h.NearTo p (n + 1) n := by
  refine ⟨by omega, by omega, fun f h1 h2 => ?_, fun f h1 h2 => by omega⟩
  by_cases c : f < r
  · have := a.left f h1 c; omega
  · by_cases e : f = r
    · subst e; exact hd
    · have := a.right f (by omega) h2; omega
theorem Hs.NearTo.stay {h : Hs} {p n r : Int} (a : h.NearTo p n r) (hd : ¬ h.dist p n < h.dist p r) : h.NearTo p (n + 1) r := by
  refine ⟨a.lo, by have := a.hi; omega, a.left, fun f h1 h2 => ?_⟩
  by_cases c : f < n
  · exact a.right f h1 c
  · obtain rfl : f = n := by omega
    omega
theorem Hs.NearTo.one {h : Hs} {p n r s : Int} (a : h.NearTo p n r) (b : h.NearTo p n s) : r = s := by
  by_cases c : r < s
  · have h1 := b.left r a.lo c; have h2 := a.right s c b.hi; omega
  · by_cases d : s < r
    · have h1 := a.left s b.lo d; have h2 := b.right r d a.hi; omega
    · omega
end Go.Proofs.Ytehdgifinanbbaa.Pl
