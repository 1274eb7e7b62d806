/-
  The source of choices, with a bound on how many were read: what the model's draws keep.
-/
import Derived.Test.YtoacnglcneliiaaGreatDoorCarD
import Derived.Deep.DeepCutAuto
import Derived.Test.YtoacnglcneliiaaGreatDoorFnd
namespace Go.Proofs.YtoacnglcneliiaaGreatDoor
open Go.RowKit Pl

/-- The source, of which at most T choices were read. -/
def SrcT (w : World) (sb B : Nat) (a : Option Addr) (len cap T : Nat) : Prop := ∃ t, t ≤ T ∧ Src w sb B a len cap t
theorem SrcT.lt {w : World} {sb B : Nat} {a : Option Addr} {len cap T : Nat} (h : SrcT w sb B a len cap T) : sb < w.heap.size := by obtain ⟨t, _, h⟩ := h; exact h.lt
theorem SrcT.hB {w : World} {sb B : Nat} {a : Option Addr} {len cap T : Nat} (h : SrcT w sb B a len cap T) : B ≤ sb := by obtain ⟨t, _, h⟩ := h; exact h.hB
theorem SrcT.more {w : World} {sb B : Nat} {a : Option Addr} {len cap T : Nat} (h : SrcT w sb B a len cap T) {U : Nat} (hu : T ≤ U) : SrcT w sb B a len cap U := by obtain ⟨t, ht, h⟩ := h; exact ⟨t, by omega, h⟩
theorem SrcT.alloc {w : World} {sb B : Nat} {a : Option Addr} {len cap T : Nat} (h : SrcT w sb B a len cap T) (o : Obj) : SrcT (w.alloc o) sb B a len cap T := by obtain ⟨t, ht, h⟩ := h; exact ⟨t, ht, h.alloc o⟩
theorem SrcT.other {w : World} {sb B : Nat} {a : Option Addr} {len cap T : Nat} (h : SrcT w sb B a len cap T) (b o : Nat) (v : Value) (hb : b ≠ sb) (hB : B ≤ b) : SrcT (w.setCell ⟨b, o, none⟩ v) sb B a len cap T := by obtain ⟨t, ht, h⟩ := h; exact ⟨t, ht, h.other b o v hb hB⟩
theorem SrcT.below {W w : World} {sb B : Nat} {a : Option Addr} {len cap T : Nat} (h : SrcT W sb B a len cap T) (hb : Below W.heap.size W w) : SrcT w sb B a len cap T := by obtain ⟨t, ht, h⟩ := h; exact ⟨t, ht, h.below hb⟩
theorem SrcT.drew {W : World} {sb B : Nat} {a : Option Addr} {len cap T : Nat} (h : SrcT W sb B a len cap T) : SrcT W.drew sb B a len cap T := h.below (Below.refl _ _).drew

/-- Numbers that lie one behind the other in a block. -/
def LstAt (w : World) (b : Nat) (l : List Int) : Prop := 1 ≤ l.length ∧ ∀ i, i < l.length → w.cell? ⟨b, i, none⟩ = some (.int .i64 (l.getD i 0))
theorem LstAt.lt {w : World} {b : Nat} {l : List Int} (h : LstAt w b l) : b < w.heap.size := World.block_lt_of_cell? w _ (h.2 0 h.1)
theorem LstAt.new (w : World) (l : List Int) (T : TypeId) (b : Nat) (hb : b = w.heap.size) (hl : 1 ≤ l.length) : LstAt (w.alloc (.cells (l.map (Value.int .i64)).toArray T)) b l := by
  subst hb; exact ⟨hl, fun i hi => list_cells w T l i hi⟩
theorem LstAt.below {W w : World} {b B : Nat} {l : List Int} (h : LstAt W b l) (hb : Below B W w) (hB : b < B) : LstAt w b l := ⟨h.1, fun i hi => (hb.cell (p := ⟨b, i, none⟩) hB).trans (h.2 i hi)⟩
theorem LstAt.alloc {W : World} {b : Nat} {l : List Int} (h : LstAt W b l) (o : Obj) : LstAt (W.alloc o) b l := h.below ((Below.refl _ _).alloc (Nat.le_refl _) o) h.lt
theorem LstAt.keeps {W w : World} {b sb : Nat} {l : List Int} (h : LstAt W b l) (hk : Keeps sb W w) (hne : b ≠ sb) : LstAt w b l := ⟨h.1, fun i hi => (hk.cell (p := ⟨b, i, none⟩) h.lt hne).trans (h.2 i hi)⟩

theorem l1Next_t (sb B : Nat) (a : Option Addr) (len cap T : Nat) (n : Int) (w : World) (h : SrcT w sb B a len cap T) (hT : T ≤ 1000000) (hn : 1 ≤ n) (hn2 : n ≤ 1000000000) :
    Calls Tryz.prog 44 #[.pointer (some ⟨sb, 0, none⟩), .int .i64 n] w fun e w' => ∃ v : Nat, e = .returned (.int .i64 v) ∧ (v : Int) < n ∧ SrcT w' sb B a len cap (T + 1) ∧ Keeps sb w w' := by
  obtain ⟨t, ht, h⟩ := h
  refine (l1Next_src sb B a len cap t n w h (by omega) hn hn2).mono ?_
  rintro e w' ⟨v, he, hv, hs, hk⟩
  exact ⟨v, he, hv, ⟨_, by omega, hs⟩, hk⟩
theorem l1Pick_t (sb B lb : Nat) (l : List Int) (P : Int → Prop) (hP : ∀ y ∈ l, P y) (a : Option Addr) (len cap T : Nat) (w : World) (h : SrcT w sb B a len cap T) (hT : T ≤ 1000000) (hl : LstAt w lb l) (hm : l.length ≤ 1000) (hne : lb ≠ sb) :
    Calls Tryz.prog 45 #[.pointer (some ⟨sb, 0, none⟩), .slice (some ⟨lb, 0, none⟩) l.length l.length] w fun e w' => ∃ v : Int, e = .returned (.int .i64 v) ∧ P v ∧ SrcT w' sb B a len cap (T + 1) ∧ Keeps sb w w' := by
  obtain ⟨t, ht, h⟩ := h
  refine (l1Pick_src sb B lb l.length (fun i => l.getD i 0) a len cap t w h (by omega) hl.1 hm hne hl.2).mono ?_
  rintro e w' ⟨i, he, hi, hs, hk⟩
  exact ⟨_, he, getD_all hP hi, ⟨_, by omega, hs⟩, hk⟩
/-- A choice out of a list that was just made. -/
theorem l1Pick_at_t (sb B : Nat) (Ty : TypeId) (l : List Int) (a : Option Addr) (len cap T : Nat) (W : World) (lb : Nat) (hlb : lb = W.heap.size) (h : SrcT W sb B a len cap T) (hT : T ≤ 1000000) (hm : 1 ≤ l.length) (hm2 : l.length ≤ 1000) :
    Calls Tryz.prog 45 #[.pointer (some ⟨sb, 0, none⟩), .slice (some ⟨lb, 0, none⟩) l.length l.length] (W.alloc (.cells (l.map (Value.int .i64)).toArray Ty)) fun e w' => ∃ v : Int, e = .returned (.int .i64 v) ∧ SrcT w' sb B a len cap (T + 1) ∧ Keeps sb W w' := by
  refine (l1Pick_t sb B lb l (fun _ => True) (fun _ _ => trivial) a len cap T _ (h.alloc _) hT (LstAt.new W l Ty lb hlb hm) hm2 (by have := h.lt; omega)).mono ?_
  rintro e w' ⟨v, he, -, hs, hk⟩
  exact ⟨v, he, hs, ((Keeps.refl _ _).alloc _).trans hk⟩
set_option maxHeartbeats 1000000 in
theorem l1Chance_t (sb B : Nat) (a : Option Addr) (len cap T : Nat) (n : Int) (w : World) (h : SrcT w sb B a len cap T) (hT : T ≤ 1000000) (hn : 1 ≤ n) (hn2 : n ≤ 1000000000) :
    Calls Tryz.prog 24 #[.pointer (some ⟨sb, 0, none⟩), .int .i64 n] w fun e w' => ∃ v : Bool, e = .returned (.bool v) ∧ SrcT w' sb B a len cap (T + 1) ∧ Keeps sb w w' := by
  have HS : Hid (SrcT w sb B a len cap T) := h
  clear h
  go_enter Tryz.func24, Tryz.ntmps24
  go_wp2_with (go_at_call 44; refine (l1Next_t sb B a len cap T _ _ HS.out hT hn hn2).mono ?_; rintro e w' ⟨v, rfl, hv, hs, hk⟩; have HK : Hid (Keeps sb w w') := hk; have HS' : Hid (SrcT w' sb B a len cap (T + 1)) := hs; clear hk hs)
  go_ret
  exact ⟨_, rfl, HS'.out, HK.out⟩
theorem l2House_t (sb B : Nat) (a : Option Addr) (len cap T : Nat) (w : World) (h : SrcT w sb B a len cap T) (hT : T ≤ 900000) :
    Calls Tryz.prog 22 #[.pointer (some ⟨sb, 0, none⟩)] w fun e w' => ∃ h : Hs, e = .returned (.agg #[.int .i64 h.fl, .int .i64 h.gp, .int .i64 h.ln, .int .i64 h.rf, .int .i64 h.sp, .int .i64 h.pu, .int .i64 h.br, .int .i64 h.dr, .int .i64 h.lv, .int .i64 h.dO, .int .i64 h.ld, .int .i64 h.qu]) ∧ Small h ∧ SrcT w' sb B a len cap (T + 40) ∧ Keeps sb w w' := by
  obtain ⟨t, ht, h⟩ := h
  refine (l2House_src sb B a len cap t w h (by omega)).mono ?_
  rintro e w' ⟨v, t', he, hv, ht', hs, hk⟩
  exact ⟨v, he, hv, ⟨_, by omega, hs⟩, hk⟩
theorem l1Source_t (B : Nat) (a : Option Addr) (len cap : Nat) (w : World) (hB : B ≤ w.heap.size) (hc : CodeIn w B a len) :
    Calls Tryz.prog 21 #[.slice a len cap] w fun e w' => e = .returned (.pointer (some ⟨w.heap.size, 0, none⟩)) ∧ SrcT w' w.heap.size B a len cap 0 ∧ Keeps w.heap.size w w' := by
  refine (l1Source_any B a len cap w hB hc).mono ?_
  rintro e w' ⟨he, hs, hk⟩
  exact ⟨he, ⟨0, Nat.le_refl _, hs⟩, hk⟩
theorem R3.other' {W : World} {b k o : Nat} {u : Value} (a : R3 W b) (hne : b ≠ k) : R3 (W.setCell ⟨k, o, none⟩ u) b := a.other hne
theorem HAt.other {W : World} {b k o : Nat} {u : Value} {h : Hs} (a : HAt W b h) (hne : b ≠ k) : HAt (W.setCell ⟨k, o, none⟩ u) b h :=
  ⟨(cellS hne).trans a.c0, (cellS hne).trans a.c1, (cellS hne).trans a.c2, (cellS hne).trans a.c3, (cellS hne).trans a.c4, (cellS hne).trans a.c5, (cellS hne).trans a.c6, (cellS hne).trans a.c7, (cellS hne).trans a.c8, (cellS hne).trans a.c9, (cellS hne).trans a.c10, (cellS hne).trans a.c11⟩
/-- A car, stored whole. -/
def put3 (W : World) (b : Nat) (c : Cs) : World := ((W.setCell ⟨b, 0, none⟩ (.int .i64 c.pos)).setCell ⟨b, 1, none⟩ (.int .i64 c.vel)).setCell ⟨b, 2, none⟩ (.int .i64 c.door)
theorem R3.cw {W : World} {b : Nat} (a : R3 W b) : CW W b ⟨0, 0, 0⟩ := ⟨a.c0, a.c1, a.c2, a.f0, a.f1, a.f2⟩
theorem CW.put {W : World} {b : Nat} {c : Cs} (a : CW W b c) (g : Cs) : CW (put3 W b g) b g := ((a.set_pos g.pos).set_vel g.vel).set_door g.door
theorem CW.put_other {W : World} {b k : Nat} {c : Cs} (a : CW W b c) (hne : b ≠ k) (g : Cs) : CW (put3 W k g) b c := ((a.other hne).other hne).other hne
theorem R3.put_other {W : World} {b k : Nat} (a : R3 W b) (hne : b ≠ k) (g : Cs) : R3 (put3 W k g) b := ((a.other hne).other hne).other hne
theorem HAt.put3_other {W : World} {b k : Nat} {h : Hs} (a : HAt W b h) (hne : b ≠ k) (g : Cs) : HAt (put3 W k g) b h := ((a.other hne).other hne).other hne
theorem SrcT.put3 {w : World} {sb B : Nat} {a : Option Addr} {len cap T : Nat} (h : SrcT w sb B a len cap T) (b : Nat) (g : Cs) (hb : b ≠ sb) (hB : B ≤ b) : SrcT (put3 w b g) sb B a len cap T := ((h.other b _ _ hb hB).other b _ _ hb hB).other b _ _ hb hB
theorem Keeps.put3 {sb b : Nat} {a w : World} (h : Keeps sb a w) (hb : a.heap.size ≤ b) (g : Cs) : Keeps sb a (put3 w b g) := ((h.own hb _ _).own hb _ _).own hb _ _
end Go.Proofs.YtoacnglcneliiaaGreatDoor
