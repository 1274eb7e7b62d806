/-
  The law FnNeeds, proved: whom a car needs is told as the document says.
-/
import Derived.Test.YtllphhhaaoggjaaRows
import Derived.WalkKit
import Derived.ProofKit
import Derived.OpenShut
import Derived.ShutString
import Derived.ChangeOld
import Derived.Below
import Derived.Test.YtllphhhaaoggjaaDrawW
import Derived.Test.YtllphhhaaoggjaaLedJ
import Derived.Test.YtllphhhaaoggjaaPersL
import Derived.Deep.RegionHeld3
import Derived.BigGuardPart
import Derived.WalkMore
import Derived.Test.YtllphhhaaoggjaaSrc
namespace Go.Proofs.Ytllphhhaaoggjaa
open Go.RowKit Pl

theorem lwBig_no (a : Option Addr) (len cap : Nat) (h : len ≤ 1048576) (w : World) :
    Calls Try.prog 14 #[.slice a len cap] w fun e w' => e = .returned (.bool false) ∧ w' = w := by
  have hd : decide ((1048576 : Int) < (len : Int)) = false := decide_eq_false (by omega)
  go_enter Try.func14, Try.ntmps14
  go_wp2
  go_ret
  exact ⟨rfl, rfl⟩
theorem lwBig_yes (a : Option Addr) (len cap : Nat) (h : 1048576 < len) (hm : len ≤ maxLen) (w : World) :
    Calls Try.prog 14 #[.slice a len cap] w fun e w' => e = .returned (.bool true) ∧ w' = w := by
  unfold maxLen at hm
  have hd : decide ((1048576 : Int) < (len : Int)) = true := decide_eq_true (by omega)
  go_enter Try.func14, Try.ntmps14
  go_wp2
  go_ret
  exact ⟨rfl, rfl⟩

/-- What the shell of a law tells of a slice of bytes that came in. -/
def codeRow (w : World) (a : Option Addr) (len cap : Nat) (zs : List Int) : Prop :=
  (a = none ∧ len = 0 ∧ cap = 0 ∧ zs = []) ∨
  ∃ x, a = some x ∧ len ≤ cap ∧ cap ≤ maxLen ∧ zs.length = cap ∧ (∀ i, i < zs.length → w.cell? (x.add i) = some (.int .u8 (zs.getD i 0))) ∧ ∀ n ∈ zs, (Lit.int .u8 n).wf = true
/-- The bytes lie in a block that was there. -/
def CodeLt (w : World) (a : Option Addr) (len : Nat) : Prop := ∀ b off, a = some ⟨b, off, none⟩ → len ≠ 0 → b < w.heap.size
theorem codeLt_of {w : World} {a : Option Addr} {len cap : Nat} {zs : List Int} (h : codeRow w a len cap zs) : CodeLt w a len := by
  intro b off ha hl
  rcases h with ⟨h1, _⟩ | ⟨x, h1, h2, h3, h4, h5, _⟩
  · rw [h1] at ha; cases ha
  · rw [h1] at ha
    obtain rfl : x = ⟨b, off, none⟩ := by simpa using ha
    have hc0 := h5 0 (by omega)
    have := World.block_lt_of_cell? w _ hc0
    simpa [Addr.add] using this
theorem row_le {w : World} {a : Option Addr} {len cap : Nat} {zs : List Int} (h : codeRow w a len cap zs) : len ≤ maxLen := by
  rcases h with ⟨_, rfl, _, _⟩ | ⟨x, _, h1, h2, _⟩
  · exact Nat.zero_le _
  · omega
theorem codeIn_of {w : World} {a : Option Addr} {len cap : Nat} {zs : List Int} (h : codeRow w a len cap zs) (hl : len ≤ 1048576) (sb : Nat) (hsb : w.heap.size ≤ sb) : CodeIn w sb a len := by
  refine ⟨by omega, ?_⟩
  rcases h with ⟨_, rfl, _, _⟩ | ⟨x, rfl, h1, h2, h3, h4, h5⟩
  · exact Or.inl rfl
  · by_cases h0 : len = 0
    · exact Or.inl h0
    · obtain ⟨b, off, spot⟩ := x
      have hc0 := h4 0 (by omega)
      have hspot : spot = none := by simpa [Addr.add] using World.cell?_spot hc0
      subst hspot
      refine Or.inr ⟨b, off, rfl, ?_, fun i hi => ?_⟩
      · have := World.block_lt_of_cell? w _ hc0
        simp [Addr.add] at this
        omega
      · have hci := h4 i (by omega)
        have hw := getD_all (P := fun n => (Lit.int .u8 n).wf = true) h5 (i := i) (by omega)
        have e : Addr.add ⟨b, off, none⟩ i = ⟨b, off + i, none⟩ := by unfold Addr.add; split <;> simp_all
        rw [e] at hci
        exact ⟨_, hci, (bounds_u8 hw).1, (bounds_u8 hw).2⟩
/-- The bytes can be read as before where nothing that was there has turned. -/
theorem codeIn_below {w W W' : World} {a : Option Addr} {len : Nat} (h : ∀ sb, w.heap.size ≤ sb → CodeIn W sb a len) (hlt : CodeLt w a len) (hb : Below w.heap.size W W') : ∀ sb, w.heap.size ≤ sb → CodeIn W' sb a len := by
  intro sb hsb
  obtain ⟨h1, h2⟩ := h sb hsb
  refine ⟨h1, ?_⟩
  rcases h2 with h2 | ⟨b, off, h3, h4, h5⟩
  · exact Or.inl h2
  · by_cases h0 : len = 0
    · exact Or.inl h0
    · have hblt := hlt b off h3 h0
      refine Or.inr ⟨b, off, h3, h4, fun i hi => ?_⟩
      obtain ⟨z, hz, z1, z2⟩ := h5 i hi
      exact ⟨z, (hb.cell (p := ⟨b, off + i, none⟩) hblt).trans hz, z1, z2⟩
theorem codeIn_drawn {B : Nat} {W W' : World} {a : Option Addr} {len k : Nat} (h : ∀ sb, B ≤ sb → CodeIn W sb a len) (e : W' = W.drewN k) : ∀ sb, B ≤ sb → CodeIn W' sb a len := by
  rw [e]; exact h
theorem below_drawn {B : Nat} {w W W' : World} {k : Nat} (h : Below B w W) (e : W' = W.drewN k) : Below B w W' := by
  rw [e]; exact ⟨h.os, h.tape, h.output, h.size, h.block⟩
end Go.Proofs.Ytllphhhaaoggjaa

namespace Go.Proofs.Ytllphhhaaoggjaa
open Go.RowKit Pl
set_option linter.unusedSimpArgs false
set_option linter.unusedVariables false

theorem row_none {w : World} {a : Option Addr} {len cap : Nat} {zs : List Int} (h : codeRow w a len cap zs) : a = none → len = 0 ∧ cap = 0 := by
  intro e
  rcases h with ⟨_, q1, q2, _⟩ | ⟨x, q, _⟩
  · exact ⟨q1, q2⟩
  · rw [q] at e
    cases e
theorem Own.pinZ {w : World} {B n cap : Nat} {a : Option Addr} {l : List Pe} (h : Own w B (.slice a n cap) l) : PIn w w.heap.size a l := by
  obtain ⟨a2, c2, e, hp⟩ := h.pin
  injection e with q1 q2 q3
  rw [q1]
  exact hp
theorem fieldN0 (k a b : Int) (w : World) : (Instr.field 32 (.agg #[.int .i64 k, .int .i64 a, .int .i64 b]) 0).run Try.prog w = .ok (.int .i64 k) w := by kernel_rfl
theorem fieldI1 (k : Int) (v : Value) (w : World) : (Instr.field 36 (.agg #[.int .i64 k, v]) 1).run Try.prog w = .ok v w := by kernel_rfl
/-- A block of three numbers. -/
structure N3 (w : World) (b : Nat) (k i f : Int) : Prop where
  c0 : w.cell? ⟨b, 0, none⟩ = some (.int .i64 k)
  c1 : w.cell? ⟨b, 1, none⟩ = some (.int .i64 i)
  c2 : w.cell? ⟨b, 2, none⟩ = some (.int .i64 f)
theorem N3.lt {w : World} {b : Nat} {k i f : Int} (a : N3 w b k i f) : b < w.heap.size := World.block_lt_of_cell? w _ a.c0
theorem N3.below {W w : World} {b B : Nat} {k i f : Int} (a : N3 W b k i f) (hb : Below B W w) (hB : b < B) : N3 w b k i f := ⟨(hb.cell (p := ⟨b, 0, none⟩) hB).trans a.c0, (hb.cell (p := ⟨b, 1, none⟩) hB).trans a.c1, (hb.cell (p := ⟨b, 2, none⟩) hB).trans a.c2⟩
theorem N3.alloc {W : World} {b : Nat} {k i f : Int} (a : N3 W b k i f) (o : Obj) : N3 (W.alloc o) b k i f := a.below ((Below.refl _ _).alloc (Nat.le_refl _) o) a.lt
theorem N3.at_ (w : World) (k i f : Int) (T : TypeId) (b : Nat) (hb : b = w.heap.size) : N3 (w.alloc (.cells #[.int .i64 k, .int .i64 i, .int .i64 f] T)) b k i f := by
  subst hb
  constructor <;> simp
theorem need_who {full : Bool} {sh ca i f : Int} : ∀ {l : List Pe}, need full sh ca l = some (i, f) → ∃ (k : Nat) (p : Pe), l[k]? = some p ∧ p.id = i ∧ skipB full sh ca p = false ∧ f = (if p.st = 1 then p.tw else p.fr)
  | [], e => by simp [need] at e
  | q :: l, e => by
    unfold need at e
    by_cases z : skipB full sh ca q = true
    · rw [if_pos z] at e
      obtain ⟨k, p, h1, h2⟩ := need_who e
      exact ⟨k + 1, p, by simpa using h1, h2⟩
    · rw [if_neg z] at e
      have e := Option.some.inj e
      exact ⟨0, q, rfl, congrArg Prod.fst e, by simpa using z, (congrArg Prod.snd e).symm⟩
theorem pers_id {h : Hs} {nx last : Int} {p : Pe} (z : Hs.pers h nx last p = 0) : last < p.id := by
  unfold Hs.pers at z
  split at z
  · split at z
    · omega
    · omega
  · omega
theorem first_rise {h : Hs} {nx : Int} : ∀ (l : List Pe) (last : Int), Hs.first h nx last l = 0 → (∀ (i : Nat) (p : Pe), l[i]? = some p → last < p.id) ∧ ∀ (i j : Nat) (p q : Pe), i < j → l[i]? = some p → l[j]? = some q → p.id < q.id
  | [], last, _ => ⟨by simp, by simp⟩
  | q :: l, last, e => by
    unfold Hs.first at e
    split at e
    case isFalse z => exact absurd e z
    case isTrue z =>
      obtain ⟨r1, r2⟩ := first_rise l q.id e
      have z1 := pers_id z
      refine ⟨fun i p hp => ?_, fun i j p q' hij hp hq => ?_⟩
      · cases i with
        | zero => simp at hp; subst hp; exact z1
        | succ i => have := r1 i p (by simpa using hp); omega
      · cases j with
        | zero => omega
        | succ j =>
          cases i with
          | zero => simp at hp; subst hp; exact r1 j q' (by simpa using hq)
          | succ i => exact r2 i j p q' (by omega) (by simpa using hp) (by simpa using hq)
theorem led_first {h : Hs} {x : Lg} (hk : Hs.led h x = 0) : Hs.first h x.nx 0 x.ps = 0 := by
  have hf : Hs.ledC h x = 0 := by
    unfold Hs.led at hk
    by_cases q : h.fault = 0
    · rw [if_pos q] at hk; exact hk
    · rw [if_neg q] at hk; exact absurd hk q
  unfold Hs.ledC at hf
  split at hf
  case isFalse => omega
  split at hf
  case isTrue => omega
  split at hf
  · assumption
  · exact hf
/-- Where somebody was told: who, and nobody ahead bears the id. -/
theorem needK_who {h : Hs} {nx : Int} {l : List Pe} {sh ca ri rf : Int} (e : Hs.needK h ⟨nx, l⟩ sh ca = (0, ri, rf)) :
    Hs.askd h ⟨nx, l⟩ sh ca 0 = 0 ∧ ∃ (k : Nat) (p : Pe), l[k]? = some p ∧ p.id = ri ∧ p.sh = sh ∧ p.ca = ca ∧ ((p.st = 1 ∧ rf = p.tw) ∨ (p.st = 0 ∧ rf = p.fr ∧ ((riders sh ca l).length : Int) ≠ h.ld)) ∧ ∀ (j : Nat) (q : Pe), j < k → l[j]? = some q → q.id ≠ ri := by
  unfold Hs.needK at e
  by_cases z : Hs.askd h ⟨nx, l⟩ sh ca 0 = 0
  case neg => rw [if_neg z] at e; exact absurd (congrArg Prod.fst e) z
  rw [if_pos z] at e
  have hled : Hs.led h ⟨nx, l⟩ = 0 := by
    have z2 := z
    unfold Hs.askd at z2
    by_cases q : Hs.led h ⟨nx, l⟩ = 0
    · exact q
    · rw [if_neg q] at z2; exact z2
  have rise := first_rise l 0 (led_first hled)
  have s1 := (askd_car z).1
  refine ⟨z, ?_⟩
  unfold Hs.need at e
  cases en : need (decide (h.ld ≤ (cnt 1 sh ca l : Int))) sh ca l with
  | none => rw [show (Lg.ps ⟨nx, l⟩) = l from rfl, en] at e; simp [needR] at e
  | some o =>
    obtain ⟨i, f⟩ := o
    rw [show (Lg.ps ⟨nx, l⟩) = l from rfl, en] at e
    simp only [needR, Prod.mk.injEq, true_and] at e
    obtain ⟨e1, e2⟩ := e
    subst e1 e2
    obtain ⟨k, p, hp, hid, hs, hf⟩ := need_who en
    have hcnt : ((riders sh ca l).length : Int) = (cnt 1 sh ca l : Int) := by rw [riders_cnt s1]
    unfold skipB act at hs
    simp only [Bool.or_eq_false_iff, Bool.and_eq_false_iff, bne_eq_false_iff_eq, Bool.not_eq_false', Bool.or_eq_true, beq_iff_eq] at hs
    refine ⟨k, p, hp, hid, hs.1.1.1, hs.1.1.2, ?_, fun j q hj hq => ?_⟩
    · by_cases s : p.st = 1
      · exact Or.inl ⟨s, by rw [hf, if_pos s]⟩
      · have s0 : p.st = 0 := by rcases hs.1.2 with a | a; (· exact a); (· exact absurd a s)
        refine Or.inr ⟨s0, by rw [hf, if_neg s], ?_⟩
        rcases hs.2 with a | a
        · have := of_decide_eq_false a
          omega
        · exact absurd a s
    · have := rise.2 j k q p hj hq hp
      omega
set_option maxRecDepth 20000 in
set_option maxHeartbeats 16000000 in
theorem needs_walk (a0 : Option Addr) (len0 cap0 : Nat) (w : World) (hc : CodeIn w w.heap.size a0 len0) (hbig : len0 ≤ 1048576) (hz : a0 = none → len0 = 0 ∧ cap0 = 0) :
    Calls Try.prog 3 #[.slice a0 len0 cap0] w fun e w' => e = .returned (.bool true) ∧ Below w.heap.size w w' := by
  have HC : Hid (CodeIn w w.heap.size a0 len0) := hc
  clear hc
  go_enter Try.func3, Try.ntmps3
  go_wp2_with (first | (go_at_call 14; refine (lwBig_no _ _ _ hbig _).mono ?_; rintro e w' ⟨rfl, hw⟩; obtain rfl := hw.symm; clear hw))
  refine (DrawNeedOf_any a0 len0 cap0 _ HC.out hbig hz).mono ?_
  rintro e w1 ⟨h, nx, ra, rc, l, sh, ca, rfl, ho, hl60, hb⟩
  clear HC hbig hz
  go_upto_region 4 with fail
  have hsz := hb.size
  obtain ⟨w2, hw2⟩ : ∃ w2, w2 = (w1.alloc (.cells #[.int .i64 h.fl, .int .i64 h.gp, .int .i64 h.ln, .int .i64 h.rf, .int .i64 h.sp, .int .i64 h.pu, .int .i64 h.br, .int .i64 h.dr, .int .i64 h.lv, .int .i64 h.dO, .int .i64 h.ld, .int .i64 h.qu] 25)).alloc (.cells #[.int .i64 nx, .slice ra l.length rc] 28) := ⟨_, rfl⟩
  obtain ⟨b1, hb1⟩ : ∃ b1, b1 = w1.heap.size := ⟨_, rfl⟩
  obtain ⟨b2, hb2⟩ : ∃ b2, b2 = w1.heap.size + 1 := ⟨_, rfl⟩
  have l12 : b1 < b2 := by omega
  have lw1 : w.heap.size ≤ b1 := by omega
  have F0 : Hid (HAt w2 b1 h) := by rw [hw2]; exact (HAt.at_ w1 h _ _ hb1).alloc _
  have F1 : Hid (LW w2 b2 nx (.slice ra l.length rc)) := by rw [hw2]; exact LW.at_ _ nx _ _ _ (by simp [hb2])
  have FO : Hid (Own w2 w.heap.size (.slice ra l.length rc) l) := by rw [hw2]; exact (ho.alloc _).alloc _
  have FB : Hid (Below w.heap.size w w2) := by rw [hw2]; exact (hb.alloc hb.size _).alloc (by simp; omega) _
  rw [← hw2, ← hb2, ← hb1]
  clear hw2 hb1 hb2 hb hsz ho
  obtain ⟨N, hN⟩ : ∃ N, Hs.needK h ⟨nx, l⟩ sh ca = N := ⟨_, rfl⟩
  obtain ⟨k, ri, rf⟩ := N
  have C1 : Hid (∀ W, PIn W W.heap.size ra l → Calls Try.prog 16 #[.agg #[.int .i64 h.fl, .int .i64 h.gp, .int .i64 h.ln, .int .i64 h.rf, .int .i64 h.sp, .int .i64 h.pu, .int .i64 h.br, .int .i64 h.dr, .int .i64 h.lv, .int .i64 h.dO, .int .i64 h.ld, .int .i64 h.qu], .agg #[.int .i64 nx, .slice ra l.length rc], .int .i64 sh, .int .i64 ca] W fun e w' => e = .returned (.agg #[.int .i64 k, .int .i64 ri, .int .i64 rf]) ∧ Below W.heap.size W w') := fun W hW => by have q := implNeedOf_any h ⟨nx, l⟩ sh ca ra rc (by show l.length ≤ _; omega) W hW; rw [hN] at q; exact q
  have C2 : Hid (∀ W, PIn W W.heap.size ra l → Calls Try.prog 17 #[.agg #[.int .i64 h.fl, .int .i64 h.gp, .int .i64 h.ln, .int .i64 h.rf, .int .i64 h.sp, .int .i64 h.pu, .int .i64 h.br, .int .i64 h.dr, .int .i64 h.lv, .int .i64 h.dO, .int .i64 h.ld, .int .i64 h.qu], .agg #[.int .i64 nx, .slice ra l.length rc], .int .i64 sh, .int .i64 ca] W fun e w' => e = .returned (.agg #[.int .i64 k, .int .i64 ri, .int .i64 rf]) ∧ Below W.heap.size W w') := fun W hW => by have q := specNeedOf_any h ⟨nx, l⟩ sh ca ra rc (by show l.length ≤ _; omega) W hW; rw [hN] at q; exact q
  obtain ⟨x0_0, x0_1, x0_2, x0_3, x0_4, x0_5, x0_6, x0_7, x0_8, x0_9, x0_10, x0_11⟩ := F0.out
  obtain ⟨u0, u1, u2, u3⟩ := F1.out
  go_upto_region 5 with (go_at_call 16; refine (C1.out _ FO.out.pinZ).mono ?_; rintro e w3 ⟨rfl, hb⟩; have F0 : Hid (HAt w3 b1 h) := F0.out.below hb F0.out.lt; have F1 : Hid (LW w3 b2 nx (.slice ra l.length rc)) := F1.out.below hb F1.out.lt; have FO : Hid (Own w3 w.heap.size (.slice ra l.length rc) l) := FO.out.below hb (fun k hk => (FO.out.lt k hk).2); have FB : Hid (Below w.heap.size w w3) := FB.out.trans (hb.mono FB.out.size); clear hb)
  clear x0_0 x0_1 x0_2 x0_3 x0_4 x0_5 x0_6 x0_7 x0_8 x0_9 x0_10 x0_11 u0 u1 u2 u3 C1
  obtain ⟨b3, hbb⟩ : ∃ b3, b3 = w3.heap.size := ⟨_, rfl⟩
  obtain ⟨w4, hw2⟩ : ∃ w4, w4 = w3.alloc (.cells #[.int .i64 k, .int .i64 ri, .int .i64 rf] 32) := ⟨_, rfl⟩
  have l5F1 := F1.out.lt
  rw [← hbb] at l5F1
  have F0 : Hid (HAt w4 b1 h) := by rw [hw2]; exact F0.out.below ((Below.refl _ _).alloc (Nat.le_refl _) _) F0.out.lt
  have F1 : Hid (LW w4 b2 nx (.slice ra l.length rc)) := by rw [hw2]; exact F1.out.alloc _
  have FO : Hid (Own w4 w.heap.size (.slice ra l.length rc) l) := by rw [hw2]; exact FO.out.alloc _
  have FB : Hid (Below w.heap.size w w4) := by rw [hw2]; exact FB.out.alloc FB.out.size _
  have F2 : Hid (N3 w4 b3 k ri rf) := by rw [hw2]; exact N3.at_ w3 k ri rf _ b3 hbb
  rw [← hw2, ← hbb]
  clear hbb hw2
  obtain ⟨t0, t1, t2⟩ := F2.out
  by_cases hk : k = 0
  case neg =>
    go_upto_region 6 with fail
    clear t0 t1 t2
    have f0_ := fieldN0
    have F0 : Hid (HAt w4.drew b1 h) := F0.out.below (Below.refl _ _).drew F0.out.lt
    have F1 : Hid (LW w4.drew b2 nx (.slice ra l.length rc)) := F1.out.below (Below.refl _ _).drew F1.out.lt
    have F2 : Hid (N3 w4.drew b3 k ri rf) := F2.out.below (Below.refl _ _).drew F2.out.lt
    have FO : Hid (Own w4.drew w.heap.size (.slice ra l.length rc) l) := FO.out.drew
    have FB : Hid (Below w.heap.size w w4.drew) := FB.out.drew
    obtain ⟨x0_0, x0_1, x0_2, x0_3, x0_4, x0_5, x0_6, x0_7, x0_8, x0_9, x0_10, x0_11⟩ := F0.out
    have mn := F1.out.c0
    have mv := F1.out.c1
    have z0_ := F2.out.c0
    refine wp_region_held_drew (S := (fun w'' => w''.cell? ⟨b1, 0, none⟩ = some (.int .i64 h.fl) ∧ w''.cell? ⟨b1, 1, none⟩ = some (.int .i64 h.gp) ∧ w''.cell? ⟨b1, 2, none⟩ = some (.int .i64 h.ln) ∧ w''.cell? ⟨b1, 3, none⟩ = some (.int .i64 h.rf) ∧ w''.cell? ⟨b1, 4, none⟩ = some (.int .i64 h.sp) ∧ w''.cell? ⟨b1, 5, none⟩ = some (.int .i64 h.pu) ∧ w''.cell? ⟨b1, 6, none⟩ = some (.int .i64 h.br) ∧ w''.cell? ⟨b1, 7, none⟩ = some (.int .i64 h.dr) ∧ w''.cell? ⟨b1, 8, none⟩ = some (.int .i64 h.lv) ∧ w''.cell? ⟨b1, 9, none⟩ = some (.int .i64 h.dO) ∧ w''.cell? ⟨b1, 10, none⟩ = some (.int .i64 h.ld) ∧ w''.cell? ⟨b1, 11, none⟩ = some (.int .i64 h.qu) ∧ w''.cell? ⟨b2, 0, none⟩ = some (.int .i64 nx) ∧ w''.cell? ⟨b2, 1, none⟩ = some (.slice ra l.length rc) ∧ w''.cell? ⟨b3, 0, none⟩ = some (.int .i64 k))) (by kernel_rfl) (by (try dsimp only); first | exact ⟨x0_0, x0_1, x0_2, x0_3, x0_4, x0_5, x0_6, x0_7, x0_8, x0_9, x0_10, x0_11, mn, mv, z0_⟩ | go_keep) (fun hHeld => ?_)
    obtain ⟨v_1, hw1⟩ : ∃ v_1, v_1 = w4.drew := ⟨_, rfl⟩
    have F0 : Hid (HAt v_1 b1 h) := by rw [hw1]; exact F0.out
    have F1 : Hid (LW v_1 b2 nx (.slice ra l.length rc)) := by rw [hw1]; exact F1.out
    have F2 : Hid (N3 v_1 b3 k ri rf) := by rw [hw1]; exact F2.out
    have FO : Hid (Own v_1 w.heap.size (.slice ra l.length rc) l) := by rw [hw1]; exact FO.out
    have FB : Hid (Below w.heap.size w v_1) := by rw [hw1]; exact FB.out
    rw [← hw1] at hHeld ⊢
    clear hw1
    obtain ⟨x0_0, x0_1, x0_2, x0_3, x0_4, x0_5, x0_6, x0_7, x0_8, x0_9, x0_10, x0_11⟩ := F0.out
    have mn := F1.out.c0
    have mv := F1.out.c1
    have z0_ := F2.out.c0
    refine wpAnyH_take (i := 0) (v := _) rfl (by kernel_rfl) (by kernel_rfl) (by kernel_rfl) (fun _ _ _ h => h) (Or.inl ⟨by kernel_rfl, by (intro wx hSw; (try dsimp only at hSw); go_simp <;> with_reducible rfl)⟩) (by assumption) ?_
    try simp only [Act.put, List.getElem_toArray, List.getElem_cons_succ, List.getElem_cons_zero, List.setIfInBounds_toArray, List.set_cons_zero, List.set_cons_succ]
    refine wpAnyH_take (i := 1) (v := _) rfl (by kernel_rfl) (by kernel_rfl) (by kernel_rfl) (fun _ _ _ h => h) (Or.inl ⟨by kernel_rfl, by (intro wx hSw; (try dsimp only at hSw); go_simp <;> with_reducible rfl)⟩) (by assumption) ?_
    try simp only [Act.put, List.getElem_toArray, List.getElem_cons_succ, List.getElem_cons_zero, List.setIfInBounds_toArray, List.set_cons_zero, List.set_cons_succ]
    refine wpAnyH_take (i := 2) (v := _) rfl (by kernel_rfl) (by kernel_rfl) (by kernel_rfl) (fun _ _ _ h => h) (Or.inl ⟨by kernel_rfl, by (intro wx hSw; (try dsimp only at hSw); go_simp <;> with_reducible rfl)⟩) (by assumption) ?_
    try simp only [Act.put, List.getElem_toArray, List.getElem_cons_succ, List.getElem_cons_zero, List.setIfInBounds_toArray, List.set_cons_zero, List.set_cons_succ]
    refine wpAnyH_take (i := 3) (v := _) rfl (by kernel_rfl) (by kernel_rfl) (by kernel_rfl) (fun _ _ _ h => h) (Or.inl ⟨by kernel_rfl, by (intro wx hSw; (try dsimp only at hSw); go_simp <;> with_reducible rfl)⟩) (by assumption) ?_
    try simp only [Act.put, List.getElem_toArray, List.getElem_cons_succ, List.getElem_cons_zero, List.setIfInBounds_toArray, List.set_cons_zero, List.set_cons_succ]
    refine wpAnyH_take (i := 6) (v := _) rfl (by kernel_rfl) (by kernel_rfl) (by kernel_rfl) (fun _ _ _ h => h) (Or.inl ⟨by kernel_rfl, by (intro wx hSw; (try dsimp only at hSw); go_simp <;> with_reducible rfl)⟩) (by assumption) ?_
    try simp only [Act.put, List.getElem_toArray, List.getElem_cons_succ, List.getElem_cons_zero, List.setIfInBounds_toArray, List.set_cons_zero, List.set_cons_succ]
    refine wpAnyH_take (i := 7) (v := _) rfl (by kernel_rfl) (by kernel_rfl) (by kernel_rfl) (fun _ _ _ h => h) (Or.inl ⟨by kernel_rfl, by (intro wx hSw; (try dsimp only at hSw); go_simp <;> with_reducible rfl)⟩) (by assumption) ?_
    try simp only [Act.put, List.getElem_toArray, List.getElem_cons_succ, List.getElem_cons_zero, List.setIfInBounds_toArray, List.set_cons_zero, List.set_cons_succ]
    refine wpAnyH_ready (rs := [4]) (by kernel_rfl) (by simp) ?_
    refine (AllReadyH.cons rfl (fun K hK => ?_) AllReadyH.nil)
    go_simp
    refine (C2.out _ FO.out.pinZ).mono ?_
    rintro e v_2 ⟨rfl, hb⟩
    have F0 : Hid (HAt v_2 b1 h) := F0.out.below hb F0.out.lt
    have F1 : Hid (LW v_2 b2 nx (.slice ra l.length rc)) := F1.out.below hb F1.out.lt
    have F2 : Hid (N3 v_2 b3 k ri rf) := F2.out.below hb F2.out.lt
    have FO : Hid (Own v_2 w.heap.size (.slice ra l.length rc) l) := FO.out.below hb (fun k hk => (FO.out.lt k hk).2)
    have FB : Hid (Below w.heap.size w v_2) := FB.out.trans (hb.mono FB.out.size)
    clear hb
    obtain ⟨x0_0, x0_1, x0_2, x0_3, x0_4, x0_5, x0_6, x0_7, x0_8, x0_9, x0_10, x0_11⟩ := F0.out
    have mn := F1.out.c0
    have mv := F1.out.c1
    have z0_ := F2.out.c0
    try dsimp only
    refine hK.out _ _ (by (try dsimp only); first | exact ⟨x0_0, x0_1, x0_2, x0_3, x0_4, x0_5, x0_6, x0_7, x0_8, x0_9, x0_10, x0_11, mn, mv, z0_⟩ | go_keep) (fun hHeld => ?_)
    clear hK K
    try simp only [Act.put, List.getElem_toArray, List.getElem_cons_succ, List.getElem_cons_zero, List.setIfInBounds_toArray, List.set_cons_zero, List.set_cons_succ]
    refine wpAnyH_take (i := 5) (v := _) rfl (by kernel_rfl) (by kernel_rfl) (by kernel_rfl) (fun _ _ _ h => h) (Or.inl ⟨by kernel_rfl, by (intro wx hSw; (try dsimp only at hSw); go_simp <;> with_reducible rfl)⟩) (by assumption) ?_
    try simp only [Act.put, List.getElem_toArray, List.getElem_cons_succ, List.getElem_cons_zero, List.setIfInBounds_toArray, List.set_cons_zero, List.set_cons_succ]
    refine wpAnyH_take (i := 8) (v := _) rfl (by kernel_rfl) (by kernel_rfl) (by kernel_rfl) (fun _ _ _ h => h) (Or.inl ⟨by kernel_rfl, by (intro wx hSw; (try dsimp only at hSw); go_simp <;> with_reducible rfl)⟩) (by assumption) ?_
    try simp only [Act.put, List.getElem_toArray, List.getElem_cons_succ, List.getElem_cons_zero, List.setIfInBounds_toArray, List.set_cons_zero, List.set_cons_succ]
    refine wpAnyH_take (i := 9) (v := _) rfl (by kernel_rfl) (by kernel_rfl) (by kernel_rfl) (fun _ _ _ h => h) (Or.inl ⟨by kernel_rfl, by (intro wx hSw; (try dsimp only at hSw); go_simp <;> with_reducible rfl)⟩) (by assumption) ?_
    try simp only [Act.put, List.getElem_toArray, List.getElem_cons_succ, List.getElem_cons_zero, List.setIfInBounds_toArray, List.set_cons_zero, List.set_cons_succ]
    refine wpAnyH_done (by kernel_rfl) ?_ _
    go_wp2
    go_ret
    exact ⟨ret_bool (by simp), FB.out⟩
  subst hk
  go_upto_region 7 with fail
  clear t0 t1 t2 C2
  obtain ⟨ask, kx, p, hp, hid, hsh, hca, hst, hbef⟩ := needK_who hN
  clear hN
  have hlq : kx < l.length := (List.getElem?_eq_some_iff.1 hp).1
  obtain ⟨g0, c0, hv0, hg0, -, -⟩ := FO.out.cases.resolve_left (fun e => by rw [e.2] at hlq; simp at hlq)
  obtain ⟨rfl, rfl⟩ : ra = some ⟨g0, 0, none⟩ ∧ rc = c0 := by injection hv0 with q1 q2 q3; exact ⟨q1, q3⟩
  clear hv0
  obtain ⟨rl, hrl⟩ : ∃ rl, riders sh ca l = rl := ⟨_, rfl⟩
  have C3 : Hid (∀ W, PIn W W.heap.size (some ⟨g0, 0, none⟩) l → Calls Try.prog 18 #[.agg #[.int .i64 h.fl, .int .i64 h.gp, .int .i64 h.ln, .int .i64 h.rf, .int .i64 h.sp, .int .i64 h.pu, .int .i64 h.br, .int .i64 h.dr, .int .i64 h.lv, .int .i64 h.dO, .int .i64 h.ld, .int .i64 h.qu], .agg #[.int .i64 nx, .slice (some ⟨g0, 0, none⟩) l.length rc], .int .i64 sh, .int .i64 ca] W fun e w' => ∃ la lc, e = .returned (.agg #[.int .i64 0, .slice la rl.length lc]) ∧ Below W.heap.size W w') := fun W hW => by
    refine (implLoadOf_any h ⟨nx, l⟩ sh ca _ rc (by show l.length ≤ _; omega) W hW).mono ?_
    have e0 : Hs.loadV h ⟨nx, l⟩ sh ca = rl := (if_pos ask).trans hrl
    rw [e0, ask]
    rintro e w' ⟨la, lc, q1, -, q2⟩
    exact ⟨la, lc, q1, q2⟩
  rw [hrl] at hst
  clear hrl ask
  have HB : Hid (∀ (j : Nat) (q : Pe), j < kx → l[j]? = some q → q.id ≠ ri) := hbef
  have HP : Hid (l[kx]? = some p) := hp
  have HST : Hid ((p.st = 1 ∧ rf = p.tw) ∨ (p.st = 0 ∧ rf = p.fr ∧ (rl.length : Int) ≠ h.ld)) := hst
  have HQ : Hid (p.id = ri ∧ p.sh = sh ∧ p.ca = ca) := ⟨hid, hsh, hca⟩
  clear hbef hp hst hid hsh hca
  go_cut [8] (fun t wr => t = .bool (decide ((rl.length : Int) = h.ld)) ∧ HAt wr b1 h ∧ LW wr b2 nx (.slice (some ⟨g0, 0, none⟩) l.length rc) ∧ N3 wr b3 0 ri rf ∧ Own wr w.heap.size (.slice (some ⟨g0, 0, none⟩) l.length rc) l ∧ Below w.heap.size w wr)
  case first =>
    have f1_ := fieldI1
    have F0 : Hid (HAt w4.drew b1 h) := F0.out.below (Below.refl _ _).drew F0.out.lt
    have F1 : Hid (LW w4.drew b2 nx (.slice (some ⟨g0, 0, none⟩) l.length rc)) := F1.out.below (Below.refl _ _).drew F1.out.lt
    have F2 : Hid (N3 w4.drew b3 0 ri rf) := F2.out.below (Below.refl _ _).drew F2.out.lt
    have FO : Hid (Own w4.drew w.heap.size (.slice (some ⟨g0, 0, none⟩) l.length rc) l) := FO.out.drew
    have FB : Hid (Below w.heap.size w w4.drew) := FB.out.drew
    obtain ⟨x0_0, x0_1, x0_2, x0_3, x0_4, x0_5, x0_6, x0_7, x0_8, x0_9, x0_10, x0_11⟩ := F0.out
    have mn := F1.out.c0
    have mv := F1.out.c1
    refine wp_region_held_drew (S := (fun w'' => w''.cell? ⟨b1, 0, none⟩ = some (.int .i64 h.fl) ∧ w''.cell? ⟨b1, 1, none⟩ = some (.int .i64 h.gp) ∧ w''.cell? ⟨b1, 2, none⟩ = some (.int .i64 h.ln) ∧ w''.cell? ⟨b1, 3, none⟩ = some (.int .i64 h.rf) ∧ w''.cell? ⟨b1, 4, none⟩ = some (.int .i64 h.sp) ∧ w''.cell? ⟨b1, 5, none⟩ = some (.int .i64 h.pu) ∧ w''.cell? ⟨b1, 6, none⟩ = some (.int .i64 h.br) ∧ w''.cell? ⟨b1, 7, none⟩ = some (.int .i64 h.dr) ∧ w''.cell? ⟨b1, 8, none⟩ = some (.int .i64 h.lv) ∧ w''.cell? ⟨b1, 9, none⟩ = some (.int .i64 h.dO) ∧ w''.cell? ⟨b1, 10, none⟩ = some (.int .i64 h.ld) ∧ w''.cell? ⟨b1, 11, none⟩ = some (.int .i64 h.qu) ∧ w''.cell? ⟨b2, 0, none⟩ = some (.int .i64 nx) ∧ w''.cell? ⟨b2, 1, none⟩ = some (.slice (some ⟨g0, 0, none⟩) l.length rc))) (by kernel_rfl) (by (try dsimp only); first | exact ⟨x0_0, x0_1, x0_2, x0_3, x0_4, x0_5, x0_6, x0_7, x0_8, x0_9, x0_10, x0_11, mn, mv⟩ | go_keep) (fun hHeld => ?_)
    obtain ⟨v_3, hw1⟩ : ∃ v_3, v_3 = w4.drew := ⟨_, rfl⟩
    have F0 : Hid (HAt v_3 b1 h) := by rw [hw1]; exact F0.out
    have F1 : Hid (LW v_3 b2 nx (.slice (some ⟨g0, 0, none⟩) l.length rc)) := by rw [hw1]; exact F1.out
    have F2 : Hid (N3 v_3 b3 0 ri rf) := by rw [hw1]; exact F2.out
    have FO : Hid (Own v_3 w.heap.size (.slice (some ⟨g0, 0, none⟩) l.length rc) l) := by rw [hw1]; exact FO.out
    have FB : Hid (Below w.heap.size w v_3) := by rw [hw1]; exact FB.out
    rw [← hw1] at hHeld ⊢
    clear hw1
    obtain ⟨x0_0, x0_1, x0_2, x0_3, x0_4, x0_5, x0_6, x0_7, x0_8, x0_9, x0_10, x0_11⟩ := F0.out
    have mn := F1.out.c0
    have mv := F1.out.c1
    refine wpAnyH_take (i := 0) (v := _) rfl (by kernel_rfl) (by kernel_rfl) (by kernel_rfl) (fun _ _ _ h => h) (Or.inl ⟨by kernel_rfl, by (intro wx hSw; (try dsimp only at hSw); go_simp <;> with_reducible rfl)⟩) (by assumption) ?_
    try simp only [Act.put, List.getElem_toArray, List.getElem_cons_succ, List.getElem_cons_zero, List.setIfInBounds_toArray, List.set_cons_zero, List.set_cons_succ]
    refine wpAnyH_take (i := 1) (v := _) rfl (by kernel_rfl) (by kernel_rfl) (by kernel_rfl) (fun _ _ _ h => h) (Or.inl ⟨by kernel_rfl, by (intro wx hSw; (try dsimp only at hSw); go_simp <;> with_reducible rfl)⟩) (by assumption) ?_
    try simp only [Act.put, List.getElem_toArray, List.getElem_cons_succ, List.getElem_cons_zero, List.setIfInBounds_toArray, List.set_cons_zero, List.set_cons_succ]
    refine wpAnyH_take (i := 2) (v := _) rfl (by kernel_rfl) (by kernel_rfl) (by kernel_rfl) (fun _ _ _ h => h) (Or.inl ⟨by kernel_rfl, by (intro wx hSw; (try dsimp only at hSw); go_simp <;> with_reducible rfl)⟩) (by assumption) ?_
    try simp only [Act.put, List.getElem_toArray, List.getElem_cons_succ, List.getElem_cons_zero, List.setIfInBounds_toArray, List.set_cons_zero, List.set_cons_succ]
    refine wpAnyH_take (i := 3) (v := _) rfl (by kernel_rfl) (by kernel_rfl) (by kernel_rfl) (fun _ _ _ h => h) (Or.inl ⟨by kernel_rfl, by (intro wx hSw; (try dsimp only at hSw); go_simp <;> with_reducible rfl)⟩) (by assumption) ?_
    try simp only [Act.put, List.getElem_toArray, List.getElem_cons_succ, List.getElem_cons_zero, List.setIfInBounds_toArray, List.set_cons_zero, List.set_cons_succ]
    refine wpAnyH_take (i := 7) (v := _) rfl (by kernel_rfl) (by kernel_rfl) (by kernel_rfl) (fun _ _ _ h => h) (Or.inl ⟨by kernel_rfl, by (intro wx hSw; (try dsimp only at hSw); go_simp <;> with_reducible rfl)⟩) (by assumption) ?_
    try simp only [Act.put, List.getElem_toArray, List.getElem_cons_succ, List.getElem_cons_zero, List.setIfInBounds_toArray, List.set_cons_zero, List.set_cons_succ]
    refine wpAnyH_take (i := 8) (v := _) rfl (by kernel_rfl) (by kernel_rfl) (by kernel_rfl) (fun _ _ _ h => h) (Or.inl ⟨by kernel_rfl, by (intro wx hSw; (try dsimp only at hSw); go_simp <;> with_reducible rfl)⟩) (by assumption) ?_
    try simp only [Act.put, List.getElem_toArray, List.getElem_cons_succ, List.getElem_cons_zero, List.setIfInBounds_toArray, List.set_cons_zero, List.set_cons_succ]
    refine wpAnyH_ready (rs := [4]) (by kernel_rfl) (by simp) ?_
    refine (AllReadyH.cons rfl (fun K hK => ?_) AllReadyH.nil)
    go_simp
    refine (C3.out _ FO.out.pinZ).mono ?_
    rintro e v_4 ⟨la, lc, rfl, hb⟩
    have F0 : Hid (HAt v_4 b1 h) := F0.out.below hb F0.out.lt
    have F1 : Hid (LW v_4 b2 nx (.slice (some ⟨g0, 0, none⟩) l.length rc)) := F1.out.below hb F1.out.lt
    have F2 : Hid (N3 v_4 b3 0 ri rf) := F2.out.below hb F2.out.lt
    have FO : Hid (Own v_4 w.heap.size (.slice (some ⟨g0, 0, none⟩) l.length rc) l) := FO.out.below hb (fun k hk => (FO.out.lt k hk).2)
    have FB : Hid (Below w.heap.size w v_4) := FB.out.trans (hb.mono FB.out.size)
    clear hb
    obtain ⟨x0_0, x0_1, x0_2, x0_3, x0_4, x0_5, x0_6, x0_7, x0_8, x0_9, x0_10, x0_11⟩ := F0.out
    have mn := F1.out.c0
    have mv := F1.out.c1
    try dsimp only
    refine hK.out _ _ (by (try dsimp only); first | exact ⟨x0_0, x0_1, x0_2, x0_3, x0_4, x0_5, x0_6, x0_7, x0_8, x0_9, x0_10, x0_11, mn, mv⟩ | go_keep) (fun hHeld => ?_)
    clear hK K
    try simp only [Act.put, List.getElem_toArray, List.getElem_cons_succ, List.getElem_cons_zero, List.setIfInBounds_toArray, List.set_cons_zero, List.set_cons_succ]
    refine wpAnyH_take (i := 5) (v := _) rfl (by kernel_rfl) (by kernel_rfl) (by kernel_rfl) (fun _ _ _ h => h) (Or.inl ⟨by kernel_rfl, by (intro wx hSw; (try dsimp only at hSw); go_simp <;> with_reducible rfl)⟩) (by assumption) ?_
    try simp only [Act.put, List.getElem_toArray, List.getElem_cons_succ, List.getElem_cons_zero, List.setIfInBounds_toArray, List.set_cons_zero, List.set_cons_succ]
    refine wpAnyH_ready (rs := [6]) (by kernel_rfl) (by simp) ?_
    refine (AllReadyH.cons rfl (fun K hK => ?_) AllReadyH.nil)
    go_simp
    refine hK.out _ _ (by (try dsimp only); first | exact ⟨x0_0, x0_1, x0_2, x0_3, x0_4, x0_5, x0_6, x0_7, x0_8, x0_9, x0_10, x0_11, mn, mv⟩ | go_keep) (fun hHeld => ?_)
    clear hK K
    try simp only [Act.put, List.getElem_toArray, List.getElem_cons_succ, List.getElem_cons_zero, List.setIfInBounds_toArray, List.set_cons_zero, List.set_cons_succ]
    refine wpAnyH_take (i := 9) (v := _) rfl (by kernel_rfl) (by kernel_rfl) (by kernel_rfl) (fun _ _ _ h => h) (Or.inl ⟨by kernel_rfl, by (intro wx hSw; (try dsimp only at hSw); go_simp <;> with_reducible rfl)⟩) (by assumption) ?_
    try simp only [Act.put, List.getElem_toArray, List.getElem_cons_succ, List.getElem_cons_zero, List.setIfInBounds_toArray, List.set_cons_zero, List.set_cons_succ]
    refine wpAnyH_take (i := 10) (v := _) rfl (by kernel_rfl) (by kernel_rfl) (by kernel_rfl) (fun _ _ _ h => h) (Or.inl ⟨by kernel_rfl, by (intro wx hSw; (try dsimp only at hSw); go_simp <;> with_reducible rfl)⟩) (by assumption) ?_
    try simp only [Act.put, List.getElem_toArray, List.getElem_cons_succ, List.getElem_cons_zero, List.setIfInBounds_toArray, List.set_cons_zero, List.set_cons_succ]
    refine wpAnyH_done (by kernel_rfl) ?_ _
    go_wp2_with fail
    go_meet
    case rel => exact ⟨rfl, F0.out, F1.out, F2.out, FO.out, FB.out⟩
  case rest =>
    obtain ⟨rfl, h0, h1, h2, h3, h4⟩ := hcut
    clear F0 F1 F2 FO FB C3
    have F0 : Hid (HAt wc b1 h) := h0
    have F1 : Hid (LW wc b2 nx (.slice (some ⟨g0, 0, none⟩) l.length rc)) := h1
    have F2 : Hid (N3 wc b3 0 ri rf) := h2
    have FO : Hid (Own wc w.heap.size (.slice (some ⟨g0, 0, none⟩) l.length rc) l) := h3
    have FB : Hid (Below w.heap.size w wc) := h4
    clear h0 h1 h2 h3 h4
    go_wp2_with fail
    go_loopw [9] (fun ii wr => ∃ j : Nat, ii = .int .i64 j ∧ j ≤ kx ∧ HAt wr b1 h ∧ LW wr b2 nx (.slice (some ⟨g0, 0, none⟩) l.length rc) ∧ N3 wr b3 0 ri rf ∧ Own wr w.heap.size (.slice (some ⟨g0, 0, none⟩) l.length rc) l ∧ Below w.heap.size w wr) (fun ii _ => l.length - (intOf ii).toNat)
    case atStart => exact ⟨0, rfl, Nat.zero_le _, F0.out, F1.out, F2.out, FO.out, FB.out⟩
    case round =>
      obtain ⟨j, rfl, hj, h0, h1, h2, h3, h4⟩ := hrel
      clear F0 F1 F2 FO FB
      have F0 : Hid (HAt wr b1 h) := h0
      have F1 : Hid (LW wr b2 nx (.slice (some ⟨g0, 0, none⟩) l.length rc)) := h1
      have F2 : Hid (N3 wr b3 0 ri rf) := h2
      have FO : Hid (Own wr w.heap.size (.slice (some ⟨g0, 0, none⟩) l.length rc) l) := h3
      have FB : Hid (Below w.heap.size w wr) := h4
      clear h0 h1 h2 h3 h4
      have hlt : j < l.length := by omega
      obtain ⟨q, hq⟩ : ∃ q, l[j]? = some q := ⟨_, List.getElem?_eq_getElem hlt⟩
      have H0 : Hid (l[j]? = some q) := hq
      obtain ⟨c0, c1, c2, c3, c4, c5, c6⟩ := FO.out.ow.p7 hq
      obtain ⟨u0, u1, u2, u3⟩ := F1.out
      clear hq
      go_upto_region 12 with fail
      obtain ⟨pb, hpb⟩ : ∃ pb, pb = wr.heap.size := ⟨_, rfl⟩
      obtain ⟨W2, hW2⟩ : ∃ W2, W2 = wr.alloc (.cells #[.int .i64 q.id, .int .i64 q.fr, .int .i64 q.tw, .int .i64 q.sh, .int .i64 q.ca, .int .i64 q.st, .int .i64 q.pl] 39) := ⟨_, rfl⟩
      have F0 : Hid (HAt W2 b1 h) := by rw [hW2]; exact F0.out.below ((Below.refl _ _).alloc (Nat.le_refl _) _) F0.out.lt
      have F1 : Hid (LW W2 b2 nx (.slice (some ⟨g0, 0, none⟩) l.length rc)) := by rw [hW2]; exact F1.out.alloc _
      have F2 : Hid (N3 W2 b3 0 ri rf) := by rw [hW2]; exact F2.out.alloc _
      have FO : Hid (Own W2 w.heap.size (.slice (some ⟨g0, 0, none⟩) l.length rc) l) := by rw [hW2]; exact FO.out.alloc _
      have FB : Hid (Below w.heap.size w W2) := by rw [hW2]; exact FB.out.alloc FB.out.size _
      have F3 : Hid (P7 W2 pb 0 q) := by rw [hW2]; exact P7.at_ wr q _ _ hpb
      rw [← hW2]
      clear hW2
      rw [← hpb]
      clear hpb c0 c1 c2 c3 c4 c5 c6 u0 u1 u2 u3
      obtain ⟨z0, z1, z2, z3, z4, z5, z6⟩ := F3.out
      obtain ⟨t0, t1, t2⟩ := F2.out
      by_cases hjk : j = kx
      · subst hjk
        have e := Option.some.inj (H0.out.symm.trans HP.out)
        subst e
        obtain ⟨e1, e2, e3⟩ := HQ.out
        rcases HST.out with ⟨s1, s2⟩ | ⟨s1, s2, s3⟩
        · clear HST HQ HP HB H0
          obtain ⟨qid, qfr, qtw, qsh, qca, qst, qpl⟩ := q
          dsimp only at e1 e2 e3 s1 s2 z0 z1 z2 z3 z4 z5 z6
          subst e1 e2 e3 s1 s2
          go_wp2
          go_ret
          exact ⟨ret_bool (by simp), FB.out⟩
        · clear HST HQ HP HB H0
          have b9 : decide ((rl.length : Int) = h.ld) = false := decide_eq_false s3
          obtain ⟨qid, qfr, qtw, qsh, qca, qst, qpl⟩ := q
          dsimp only at e1 e2 e3 s1 s2 z0 z1 z2 z3 z4 z5 z6
          subst e1 e2 e3 s1 s2
          go_wp2
          go_ret
          exact ⟨ret_bool (by simp [b9, s3]), FB.out⟩
      · have nid := HB.out j q (by omega) H0.out
        have nid2 : (q.id == ri) = false := by simpa using nid
        go_wp2
        go_roundw
        case rel => exact ⟨j + 1, by simp, by omega, F0.out, F1.out, F2.out, FO.out, FB.out⟩
        case measure => simp [intOf]; omega
end Go.Proofs.Ytllphhhaaoggjaa

namespace Go.Proofs.Ytllphhhaaoggjaa.fnNeeds
open Go.ChangeShapes Go.WideShapes Go.ChangeAt Go.RowKit
open Go.ChangeMaps (open_string shut_string)
set_option linter.unusedVariables false

theorem own : ownKnob Try.prog.godebug = none := by kernel_rfl
theorem laidOut : laidOutB Try.prog = true := by kernel_rfl

/-- WHAT THE WALK IS TOLD OF A SLICE OF INTEGERS THAT CAME IN: it is nil; or it leads to a row of 'cap' cells, the numbers 'zs' (the first 'len' are its elements, the rest its spare room), each fitting its kind. -/
def IsRow (k : IntKind) (w : World) (a : Option Addr) (len cap : Nat) (zs : List Int) : Prop :=
  (a = none ∧ len = 0 ∧ cap = 0 ∧ zs = []) ∨
  ∃ x, a = some x ∧ len ≤ cap ∧ cap ≤ maxLen ∧ zs.length = cap ∧ (∀ i, i < zs.length → w.cell? (x.add i) = some (.int k (zs.getD i 0))) ∧ ∀ n ∈ zs, (Lit.int k n).wf = true

/-! ### STEP 1: THE WALK: the Go text returns true, AND WRITES NOTHING THAT WAS THERE: 'Below w.heap.size w w'' (Derived/Below.lean: '.refl', '.alloc', '.drew', '.setCell' at a new block, '.trans'). Open each 'IsRow' by 'rcases' AHEAD of 'go_enter'; part every test ahead of the walk. -/
set_option maxHeartbeats 4000000 in
theorem walk (a0 : Option Addr) (len0 cap0 : Nat) (z0 : List Int) (w : World) (w0 : IsRow .u8 w a0 len0 cap0 z0) :
    Calls Try.prog 3 #[.slice a0 len0 cap0] w fun e w' => e = .returned (.bool true) ∧ Below w.heap.size w w' := by
  by_cases hbig : len0 ≤ 1048576
  · exact needs_walk a0 len0 cap0 w (codeIn_of w0 hbig _ (Nat.le_refl _)) hbig (row_none w0)
  · have hm : len0 ≤ maxLen := row_le w0
    clear w0
    go_enter Try.func3, Try.ntmps3
    go_wp2_with (go_at_call 14; refine (lwBig_yes _ _ _ (by omega) hm _).mono ?_; rintro e w' ⟨rfl, rfl⟩)
    go_ret
    exact ⟨rfl, Below.refl _ _⟩

/-! ### THE ROW's STEP: WRITTEN OUT: LEAVE IT -/
set_option maxRecDepth 100000 in
theorem lifted (os : Os) (started : os.Started) (H : Type) (enc : TypeId × Value → H) :
    ReturnsInHanded {} Try.checked os 3 .any (Rows.fnNeedsSpec.pre6 enc Try.prog Try.f3 Rows.fnNeedsRow.domain false) (Rows.fnNeedsSpec.post enc Try.prog Try.f3 false true false false) := by
  refine returnsInHanded_of_change (C := Try.checked) own started (by kernel_rfl) Try.func3
    (ChangeSpec.witness6 (enc := enc) (C := Try.checked) false ⟨#[], #[.slice none 0 0], []⟩ 8 (by kernel_rfl) (by kernel_rfl) (by kernel_rfl) (by kernel_rfl)) ?_
  intro W base args ds gs before hval0 hW hcnd _
  have hval : ∀ (j : Nat) t v, Try.f3.params[j]? = some t → args[j]? = some v → Value.okWide Try.prog W .any base t v := hval0
  have hW' := hW
  obtain ⟨p, q, hA0, hV, rfl, hfz, hnd⟩ := hW
  have hA : DataW.TrodAll enc Try.prog W 0 (fun _ => true) true Try.f3.params.toList args.toList ds p := hA0
  rw [Try.params3] at hA hval
  obtain ⟨v0, vs0, d0, ds0, p0, q0, hargs, rfl, rfl, h0, r0⟩ := trodAll_cons hA
  obtain ⟨rfl, rfl, rfl⟩ := trodAll_nil r0
  obtain rfl : args = #[v0] := by cases args; simp_all
  obtain ⟨rfl, rfl⟩ := trodVars_none hV
  obtain ⟨a0, len0, cap0, rfl⟩ := okWide_slice Try.underlying22 (hval 0 22 v0 rfl rfl)
  have k0 := h0
  have lt0 : ∀ x ∈ p0, x.block < W.heap.size := by obtain ⟨m, hm⟩ := k0; exact DataW.trod_lt m _ _ _ hm
  obtain ⟨z0, w0⟩ : ∃ zs, IsRow .u8 W a0 len0 cap0 zs := by
    obtain ⟨fuel, hf⟩ := h0
    rcases open_ints Try.underlying22 Try.underlying5 (by kernel_rfl) hf with ⟨hcs, _⟩ | ⟨x, l, c, zs, hcs, _, hl, hm, hz, _, hcell, hwz⟩
    · simp [Value.cells] at hcs
      obtain ⟨rfl, rfl, rfl⟩ := hcs
      exact ⟨[], .inl ⟨rfl, rfl, rfl, rfl⟩⟩
    · simp [Value.cells] at hcs
      obtain ⟨rfl, rfl, rfl⟩ := hcs
      exact ⟨zs, .inr ⟨_, rfl, hl, hm, by simpa using hz, hcell, hwz⟩⟩
  clear hA0 hval0
  refine (walk a0 len0 cap0 z0 W w0).mono fun e W' ⟨he, bel⟩ => ?_
  subst he
  exact ⟨_, rfl, _, _, _, [], _, [], hW', trodAll_mk1 (shut_bool Try.underlying4 _), (trodAll_cons_mk (Below.trod laidOut (by kernel_rfl) (of_decide_eq_true (by kernel_rfl)) k0 bel lt0) trodAll_mk0), rfl, bel.frame _, fun h => by cases h⟩

theorem over : Rows.fnNeedsRow.holds Try.pinned (OpenSpec.ofChange Rows.fnNeedsSpec) :=
  OpenClaim.holds_of_wide 3 Try.f3 rfl rfl rfl rfl rfl rfl rfl ⟨rfl, rfl, rfl, rfl, rfl⟩ rfl rfl rfl rfl rfl (by kernel_rfl) Try.func3 (by kernel_rfl)
    (of_decide_eq_true (by kernel_rfl)) (by unfold Func.isWrapper; first | (rw [if_pos (by decide +kernel)]; kernel_rfl) | (rw [if_neg (by decide +kernel)]; exact ⟨rfl, rfl⟩))
    (fun os started H enc _ => lifted os started H enc)

/-- ████ THE STATEMENT ████ -/
theorem proved : Rows.FnNeedsSaid := over
end Go.Proofs.Ytllphhhaaoggjaa.fnNeeds

namespace Go.Proofs.Ytllphhhaaoggjaa
theorem fnNeeds_holds : Rows.FnNeedsSaid := fnNeeds.proved
#print axioms fnNeeds_holds
end Go.Proofs.Ytllphhhaaoggjaa
