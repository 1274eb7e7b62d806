/-
  The base of what follows: plain numbers, cells, contracts of the smallest functions.
-/
import Derived.Test.YtdkikijnjkoddaaGreatGpR
import Derived.Test.YtdkikijnjkoddaaGreatPdf
import Derived.Laws.AppendOwnNone
import Derived.OwnWalk
import Derived.Test.YtdkikijnjkoddaaGreatLedF
/-
  A group that is handed in, and its copy, in plain; the model's copy.
-/
namespace Go.Proofs.YtdkikijnjkoddaaGreat
open Go.RowKit Pl
set_option linter.unusedSimpArgs false
set_option linter.unusedVariables false

/-- A group's two rows can be read. -/
structure GI (w : World) (gd gp : Nat) (ds : List Dk) (ps : List Pe) : Prop where
  d : ∀ i p, ds[i]? = some p → D13 w gd (0 + i * 13) p
  p : ∀ i p, ps[i]? = some p → P7 w gp (0 + i * 7) p
  ld : gd < w.heap.size
  lp : gp < w.heap.size
theorem GI.below {W w : World} {B gd gp : Nat} {ds : List Dk} {ps : List Pe} (a : GI W gd gp ds ps) (hb : Below B W w) (h1 : gd < B := by omega) (h2 : gp < B := by omega) : GI w gd gp ds ps :=
  ⟨fun i p hp => (a.d i p hp).below hb h1, fun i p hp => (a.p i p hp).below hb h2, Nat.lt_of_lt_of_le a.ld hb.size, Nat.lt_of_lt_of_le a.lp hb.size⟩
theorem GI.alloc {W : World} {gd gp : Nat} {ds : List Dk} {ps : List Pe} (a : GI W gd gp ds ps) (o : Obj) : GI (W.alloc o) gd gp ds ps := a.below ((Below.refl _ _).alloc (Nat.le_refl _) o) a.ld a.lp
theorem GI.din {w : World} {gd gp : Nat} {ds : List Dk} {ps : List Pe} (a : GI w gd gp ds ps) : DIn w w.heap.size (some ⟨gd, 0, none⟩) ds := Or.inr ⟨gd, 0, rfl, a.ld, a.d⟩
theorem GI.pin {w : World} {gd gp : Nat} {ds : List Dk} {ps : List Pe} (a : GI w gd gp ds ps) : PIn w w.heap.size (some ⟨gp, 0, none⟩) ps := Or.inr ⟨gp, 0, rfl, a.lp, a.p⟩
theorem GI.of {w : World} {B C gd gp n c m k : Nat} {ds : List Dk} {ps : List Pe} (hd : OwD w B gd n c ds) (hp : Ow w C gp m k ps) : GI w gd gp ds ps :=
  ⟨fun i p h => by rw [Nat.zero_add]; exact hd.d13 h, fun i p h => by rw [Nat.zero_add]; exact hp.p7 h, hd.bl.2, hp.bl.2⟩
theorem GO.gi {w : World} {B gd gp : Nat} {ds : List Dk} {ps : List Pe} (a : GO w B gd gp ds ps) : GI w gd gp ds ps := GI.of a.d a.p
/-- What a copy answers. -/
def isCp (w : World) (h : Hs) (ds : List Dk) (nx : Int) (ps : List Pe) (tk : Int) (rc : Bool) (e : Ending) (w' : World) : Prop :=
  ∃ g1 c1 g2 c2, e = .returned (.agg #[.int .i64 h.fl, .int .i64 h.gp, .int .i64 h.ln, .int .i64 h.rf, .int .i64 h.sp, .int .i64 h.pu, .int .i64 h.br, .int .i64 h.dr, .int .i64 h.lv, .int .i64 h.dO, .int .i64 h.ld, .int .i64 h.qu, .slice (some ⟨g1, 0, none⟩) ds.length c1, .int .i64 nx, .slice (some ⟨g2, 0, none⟩) ps.length c2, .int .i64 tk, .bool rc]) ∧ OwD w' w.heap.size g1 ds.length c1 ds ∧ Ow w' w.heap.size g2 ps.length c2 ps ∧ g1 ≠ g2 ∧ Below w.heap.size w w'
theorem own_emptyD (w : World) (B : Nat) (hB : B ≤ w.heap.size) : OwnD (w.alloc (.cells #[] 82)) B (.slice (some ⟨w.heap.size, 0, none⟩) 0 0) [] :=
  World.ownsRow_made (base := B) (e := 82) (size := 13) w #[] 0 hB (by unfold maxLen; omega) rfl
theorem wpList_append_dk {w : World} {a : Act} {ops : Array Oper} {rest : List Oper} {Q : Exit → Act → World → Prop} {s x : Operand} {dst : Option Tmp} {ty : TypeId} {ps : String} {af : Array Edge}
    (B : Nat) (v : Value) (l m L : List Dk) (N : Nat) (hL : l ++ m = L) (hN : L.length = N) (hs : a.eval s = v) (hown : OwnD w B v l) (b o c : Nat) (hx : a.eval x = .slice (some ⟨b, o, none⟩) m.length c)
    (hm : ∀ i p, m[i]? = some p → D13 w b (o + i * 13) p) (hn : v ≠ .slice none 0 0 ∨ 0 < m.length) (hlen : l.length + m.length ≤ 2097152) (hB : B ≤ w.heap.size)
    (h : ∀ g' c' w', OwnD w' B (.slice (some ⟨g', 0, none⟩) N c') L → w.grownBy w' v.ownBlock → wpList Tryz.prog ops Q rest (a.put dst (.slice (some ⟨g', 0, none⟩) N c')) w') :
    wpList Tryz.prog ops Q ({ dst := dst, op := .call { callee := .builtin .append, args := #[s, x], argTypes := #[32, 32] }, type := ty, pos := ps, after := af, guard := none } :: rest) a w :=
  wpList_plain rfl fun K hK => wp_append_dk B v l m L N hL hN hs hown b o c hx hm hn hlen hB (fun g' c' w' h1 h2 => hK _ _ (h g' c' w' h1 h2))
set_option maxRecDepth 20000 in
set_option maxHeartbeats 16000000 in
theorem l8Copy_any (h : Hs) (ds : List Dk) (gd dc : Nat) (nx : Int) (ps : List Pe) (gp pc : Nat) (tk : Int) (rc : Bool) (hld : ds.length ≤ 1048576) (hlp : ps.length ≤ 1048576) (w : World) (hI : GI w gd gp ds ps) : Calls Tryz.prog 17 #[.agg #[.int .i64 h.fl, .int .i64 h.gp, .int .i64 h.ln, .int .i64 h.rf, .int .i64 h.sp, .int .i64 h.pu, .int .i64 h.br, .int .i64 h.dr, .int .i64 h.lv, .int .i64 h.dO, .int .i64 h.ld, .int .i64 h.qu, .slice (some ⟨gd, 0, none⟩) ds.length dc, .int .i64 nx, .slice (some ⟨gp, 0, none⟩) ps.length pc, .int .i64 tk, .bool rc]] w (isCp w h ds nx ps tk rc) := by
  have FI0 : Hid (GI w gd gp ds ps) := hI
  have F0 : Hid (Blk ((w.alloc (.cells #[.int .i64 h.fl, .int .i64 h.gp, .int .i64 h.ln, .int .i64 h.rf, .int .i64 h.sp, .int .i64 h.pu, .int .i64 h.br, .int .i64 h.dr, .int .i64 h.lv, .int .i64 h.dO, .int .i64 h.ld, .int .i64 h.qu, .slice (some ⟨gd, 0, none⟩) ds.length dc, .int .i64 nx, .slice (some ⟨gp, 0, none⟩) ps.length pc, .int .i64 tk, .bool rc] 37)).alloc (.cells #[.int .i64 0, .int .i64 0, .int .i64 0, .int .i64 0, .int .i64 0, .int .i64 0, .int .i64 0, .int .i64 0, .int .i64 0, .int .i64 0, .int .i64 0, .int .i64 0, .slice none 0 0, .int .i64 0, .slice none 0 0, .int .i64 0, .bool false] 37)) w.heap.size (gvs h (.slice (some ⟨gd, 0, none⟩) ds.length dc) nx (.slice (some ⟨gp, 0, none⟩) ps.length pc) tk rc)) := (Blk.at_ w #[.int .i64 h.fl, .int .i64 h.gp, .int .i64 h.ln, .int .i64 h.rf, .int .i64 h.sp, .int .i64 h.pu, .int .i64 h.br, .int .i64 h.dr, .int .i64 h.lv, .int .i64 h.dO, .int .i64 h.ld, .int .i64 h.qu, .slice (some ⟨gd, 0, none⟩) ds.length dc, .int .i64 nx, .slice (some ⟨gp, 0, none⟩) ps.length pc, .int .i64 tk, .bool rc] _ _ rfl).alloc _
  have F1 : Hid (Blk ((w.alloc (.cells #[.int .i64 h.fl, .int .i64 h.gp, .int .i64 h.ln, .int .i64 h.rf, .int .i64 h.sp, .int .i64 h.pu, .int .i64 h.br, .int .i64 h.dr, .int .i64 h.lv, .int .i64 h.dO, .int .i64 h.ld, .int .i64 h.qu, .slice (some ⟨gd, 0, none⟩) ds.length dc, .int .i64 nx, .slice (some ⟨gp, 0, none⟩) ps.length pc, .int .i64 tk, .bool rc] 37)).alloc (.cells #[.int .i64 0, .int .i64 0, .int .i64 0, .int .i64 0, .int .i64 0, .int .i64 0, .int .i64 0, .int .i64 0, .int .i64 0, .int .i64 0, .int .i64 0, .int .i64 0, .slice none 0 0, .int .i64 0, .slice none 0 0, .int .i64 0, .bool false] 37)) (w.heap.size + 1) (gvs zeroH (.slice none 0 0) 0 (.slice none 0 0) 0 false)) := Blk.at_ _ #[.int .i64 0, .int .i64 0, .int .i64 0, .int .i64 0, .int .i64 0, .int .i64 0, .int .i64 0, .int .i64 0, .int .i64 0, .int .i64 0, .int .i64 0, .int .i64 0, .slice none 0 0, .int .i64 0, .slice none 0 0, .int .i64 0, .bool false] _ _ (by simp)
  have FB : Hid (Below w.heap.size w ((w.alloc (.cells #[.int .i64 h.fl, .int .i64 h.gp, .int .i64 h.ln, .int .i64 h.rf, .int .i64 h.sp, .int .i64 h.pu, .int .i64 h.br, .int .i64 h.dr, .int .i64 h.lv, .int .i64 h.dO, .int .i64 h.ld, .int .i64 h.qu, .slice (some ⟨gd, 0, none⟩) ds.length dc, .int .i64 nx, .slice (some ⟨gp, 0, none⟩) ps.length pc, .int .i64 tk, .bool rc] 37)).alloc (.cells #[.int .i64 0, .int .i64 0, .int .i64 0, .int .i64 0, .int .i64 0, .int .i64 0, .int .i64 0, .int .i64 0, .int .i64 0, .int .i64 0, .int .i64 0, .int .i64 0, .slice none 0 0, .int .i64 0, .slice none 0 0, .int .i64 0, .bool false] 37))) := ((Below.refl _ _).alloc (Nat.le_refl _) _).alloc (by simp) _
  have FI : Hid (GI ((w.alloc (.cells #[.int .i64 h.fl, .int .i64 h.gp, .int .i64 h.ln, .int .i64 h.rf, .int .i64 h.sp, .int .i64 h.pu, .int .i64 h.br, .int .i64 h.dr, .int .i64 h.lv, .int .i64 h.dO, .int .i64 h.ld, .int .i64 h.qu, .slice (some ⟨gd, 0, none⟩) ds.length dc, .int .i64 nx, .slice (some ⟨gp, 0, none⟩) ps.length pc, .int .i64 tk, .bool rc] 37)).alloc (.cells #[.int .i64 0, .int .i64 0, .int .i64 0, .int .i64 0, .int .i64 0, .int .i64 0, .int .i64 0, .int .i64 0, .int .i64 0, .int .i64 0, .int .i64 0, .int .i64 0, .slice none 0 0, .int .i64 0, .slice none 0 0, .int .i64 0, .bool false] 37)) gd gp ds ps) := (hI.alloc _).alloc _
  have LI : Hid (gd < w.heap.size ∧ gp < w.heap.size) := ⟨hI.ld, hI.lp⟩
  obtain ⟨W0, hW0⟩ : ∃ W0, W0 = ((w.alloc (.cells #[.int .i64 h.fl, .int .i64 h.gp, .int .i64 h.ln, .int .i64 h.rf, .int .i64 h.sp, .int .i64 h.pu, .int .i64 h.br, .int .i64 h.dr, .int .i64 h.lv, .int .i64 h.dO, .int .i64 h.ld, .int .i64 h.qu, .slice (some ⟨gd, 0, none⟩) ds.length dc, .int .i64 nx, .slice (some ⟨gp, 0, none⟩) ps.length pc, .int .i64 tk, .bool rc] 37)).alloc (.cells #[.int .i64 0, .int .i64 0, .int .i64 0, .int .i64 0, .int .i64 0, .int .i64 0, .int .i64 0, .int .i64 0, .int .i64 0, .int .i64 0, .int .i64 0, .int .i64 0, .slice none 0 0, .int .i64 0, .slice none 0 0, .int .i64 0, .bool false] 37)) := ⟨_, rfl⟩
  rw [← hW0] at F0 F1 FB FI
  have HW0 : Hid (W0 = ((w.alloc (.cells #[.int .i64 h.fl, .int .i64 h.gp, .int .i64 h.ln, .int .i64 h.rf, .int .i64 h.sp, .int .i64 h.pu, .int .i64 h.br, .int .i64 h.dr, .int .i64 h.lv, .int .i64 h.dO, .int .i64 h.ld, .int .i64 h.qu, .slice (some ⟨gd, 0, none⟩) ds.length dc, .int .i64 nx, .slice (some ⟨gp, 0, none⟩) ps.length pc, .int .i64 tk, .bool rc] 37)).alloc (.cells #[.int .i64 0, .int .i64 0, .int .i64 0, .int .i64 0, .int .i64 0, .int .i64 0, .int .i64 0, .int .i64 0, .int .i64 0, .int .i64 0, .int .i64 0, .int .i64 0, .slice none 0 0, .int .i64 0, .slice none 0 0, .int .i64 0, .bool false] 37))) := hW0
  clear hW0 hI
  have FE : Hid (OwnD (W0.alloc (.cells #[] 82)) W0.heap.size (.slice (some ⟨W0.heap.size, 0, none⟩) 0 0) []) := own_emptyD W0 _ (Nat.le_refl _)
  have l0 := F0.out.lt
  have l1 := F1.out.lt
  obtain ⟨WE, hWE⟩ : ∃ WE, WE = W0.alloc (.cells #[] 82) := ⟨_, rfl⟩
  obtain ⟨ge, hge⟩ : ∃ ge, ge = W0.heap.size := ⟨_, rfl⟩
  rw [← hWE, ← hge] at FE
  rw [← hge] at l0 l1
  have F0 : Hid (Blk WE w.heap.size (gvs h (.slice (some ⟨gd, 0, none⟩) ds.length dc) nx (.slice (some ⟨gp, 0, none⟩) ps.length pc) tk rc)) := by rw [hWE]; exact F0.out.alloc _
  have F1 : Hid (Blk WE (w.heap.size + 1) (gvs zeroH (.slice none 0 0) 0 (.slice none 0 0) 0 false)) := by rw [hWE]; exact F1.out.alloc _
  have FB : Hid (Below w.heap.size w WE) := by rw [hWE]; exact FB.out.alloc FB.out.size _
  have FI : Hid (GI WE gd gp ds ps) := by rw [hWE]; exact FI.out.alloc _
  have HWE : Hid (W0.alloc (.cells #[] 82) = WE ∧ W0.heap.size = ge) := ⟨hWE.symm, hge.symm⟩
  have sE : ge < WE.heap.size := (FE.out.lt ge rfl).2
  clear hWE hge
  go_enter Tryz.func17, Tryz.ntmps17
  go_upto_region 1 with fail
  rw [← HW0.out]
  clear HW0
  have y12 := F0.out.c 12 _ rfl
  have z12 : (W0.alloc (.cells #[] 82)).cell? ⟨w.heap.size, 12, none⟩ = _ := (congrArg (fun W => World.cell? W ⟨w.heap.size, 12, none⟩) HWE.out.1).trans y12
  go_upto_region 2 with (first | (at_builtin; refine wpList_append_dk ge (.slice (some ⟨ge, 0, none⟩) 0 0) [] ds ds ds.length (List.nil_append _) rfl (by rw [← HWE.out.2]; rfl) (by rw [HWE.out.1]; exact FE.out) gd 0 dc rfl (by rw [HWE.out.1]; exact FI.out.d) (Or.inl (fun e => by cases e)) (by simp; omega) (by rw [HWE.out.1]; omega) ?_; rw [HWE.out.1]; intro g1 c1 w1 ho hg; have NEr : Hid (∀ b, b < ge → some b ≠ (Value.slice (some ⟨ge, 0, none⟩) 0 0).ownBlock) := (fun b hb e => by have e2 : b = ge := Option.some.inj e; omega); have F0 : Hid (Blk w1 w.heap.size (gvs h (.slice (some ⟨gd, 0, none⟩) ds.length dc) nx (.slice (some ⟨gp, 0, none⟩) ps.length pc) tk rc)) := F0.out.grown hg (NEr.out _ (by omega)); have F1 : Hid (Blk w1 (w.heap.size + 1) (gvs zeroH (.slice none 0 0) 0 (.slice none 0 0) 0 false)) := F1.out.grown hg (NEr.out _ (by omega)); have FB : Hid (Below w.heap.size w w1) := below_grown FB.out hg (fun j hj => by have e2 : ge = j := Option.some.inj hj; omega) FB.out.size; have FD : Hid (OwD w1 (w.heap.size + 2) g1 ds.length c1 ds) := ((OwnD.ow ho).base (by omega)); have k12 := F0.out.c 12 _ rfl; have f12 := F0.out.f 12 (Nat.le_of_ble_eq_true rfl); clear ho hg NEr))
  obtain ⟨W2, hw_⟩ : ∃ W, W = w1.setCell ⟨w.heap.size, 12, none⟩ (.slice (some ⟨g1, 0, none⟩) ds.length c1) := ⟨_, rfl⟩
  rw [← hw_]
  have F0 : Hid (Blk W2 w.heap.size (gvs h (.slice (some ⟨g1, 0, none⟩) ds.length c1) nx (.slice (some ⟨gp, 0, none⟩) ps.length pc) tk rc)) := by rw [hw_]; exact F0.out.set _ (Nat.le_of_ble_eq_true rfl)
  have F1 : Hid (Blk W2 (w.heap.size + 1) (gvs zeroH (.slice none 0 0) 0 (.slice none 0 0) 0 false)) := by rw [hw_]; exact F1.out.other (by omega)
  have FD : Hid (OwD W2 (w.heap.size + 2) g1 ds.length c1 ds) := by rw [hw_]; exact FD.out.other (p := ⟨w.heap.size, 12, none⟩) (by have := FD.out.bl.1; show _ ≠ w.heap.size; omega) _
  have FB : Hid (Below w.heap.size w W2) := by rw [hw_]; exact FB.out.setCell (by show w.heap.size ≤ w.heap.size; omega) _
  have FI : Hid (GI W2 gd gp ds ps) := FI0.out.below FB.out LI.out.1 LI.out.2
  clear hw_
  clear k12 f12 y12 z12 FE HWE l0 l1 sE
  have x13 := F0.out.c 13 _ rfl
  have x14 := F0.out.c 14 _ rfl
  have ld := FD.out.bl.2
  go_upto_region 3 with (go_at_call 40; refine (l7Copy_any nx gp 0 pc ps hlp _ FI.out.p).mono ?_; rintro e w3 ⟨g2, c2, rfl, ho, hb⟩; have FP : Hid (Ow w3 (w.heap.size + 2) g2 ps.length c2 ps) := ho.base (by have := F1.out.lt; omega); have l12 : g1 < g2 := Nat.lt_of_lt_of_le ld ho.bl.1; have F0 : Hid (Blk w3 w.heap.size (gvs h (.slice (some ⟨g1, 0, none⟩) ds.length c1) nx (.slice (some ⟨gp, 0, none⟩) ps.length pc) tk rc)) := F0.out.below hb F0.out.lt; have F1 : Hid (Blk w3 (w.heap.size + 1) (gvs zeroH (.slice none 0 0) 0 (.slice none 0 0) 0 false)) := F1.out.below hb F1.out.lt; have FD : Hid (OwD w3 (w.heap.size + 2) g1 ds.length c1 ds) := FD.out.below hb FD.out.bl.2; have FB : Hid (Below w.heap.size w w3) := FB.out.trans (hb.mono FB.out.size); clear hb; clear ho; have k13 := F0.out.c 13 _ rfl; have k14 := F0.out.c 14 _ rfl; have f13 := F0.out.f 13 (Nat.le_of_ble_eq_true rfl); have f14 := F0.out.f 14 (Nat.le_of_ble_eq_true rfl))
  obtain ⟨W4, hw_⟩ : ∃ W4, W4 = (w3.setCell ⟨w.heap.size, 13, none⟩ (.int .i64 nx)).setCell ⟨w.heap.size, 14, none⟩ (.slice (some ⟨g2, 0, none⟩) ps.length c2) := ⟨_, rfl⟩
  rw [← hw_]
  have F0 : Hid (Blk W4 w.heap.size (gvs h (.slice (some ⟨g1, 0, none⟩) ds.length c1) nx (.slice (some ⟨g2, 0, none⟩) ps.length c2) tk rc)) := by rw [hw_]; exact putB_set [.int .i64 nx, .slice (some ⟨g2, 0, none⟩) ps.length c2] _ 13 w3 F0.out (Nat.le_of_ble_eq_true rfl)
  have F1 : Hid (Blk W4 (w.heap.size + 1) (gvs zeroH (.slice none 0 0) 0 (.slice none 0 0) 0 false)) := by rw [hw_]; exact Blk.putB_other (by omega) [.int .i64 nx, .slice (some ⟨g2, 0, none⟩) ps.length c2] 13 F1.out
  have FD : Hid (OwD W4 (w.heap.size + 2) g1 ds.length c1 ds) := by rw [hw_]; exact OwD.putB (by have := FD.out.bl.1; omega) [.int .i64 nx, .slice (some ⟨g2, 0, none⟩) ps.length c2] 13 _ FD.out
  have FP : Hid (Ow W4 (w.heap.size + 2) g2 ps.length c2 ps) := by rw [hw_]; exact Ow.putB (by have := FP.out.bl.1; omega) [.int .i64 nx, .slice (some ⟨g2, 0, none⟩) ps.length c2] 13 _ FP.out
  have FB : Hid (Below w.heap.size w W4) := by rw [hw_]; exact below_putB FB.out (by omega) [.int .i64 nx, .slice (some ⟨g2, 0, none⟩) ps.length c2] 13
  clear hw_
  clear k13 k14 f13 f14 x13 x14
  go_wp2_with (first | (refine load_blk 37 _ Tryz.underlying37 (by kernel_rfl) F0.out rfl rfl rfl ?_) | (refine store_blk (gvs h (.slice (some ⟨g1, 0, none⟩) ds.length c1) nx (.slice (some ⟨g2, 0, none⟩) ps.length c2) tk rc) 37 _ _ (by kernel_rfl) (by kernel_rfl) (by kernel_rfl) F1.out rfl rfl rfl rfl ?_))
  exact bodyPost_ret (v := .agg #[.int .i64 h.fl, .int .i64 h.gp, .int .i64 h.ln, .int .i64 h.rf, .int .i64 h.sp, .int .i64 h.pu, .int .i64 h.br, .int .i64 h.dr, .int .i64 h.lv, .int .i64 h.dO, .int .i64 h.ld, .int .i64 h.qu, .slice (some ⟨g1, 0, none⟩) ds.length c1, .int .i64 nx, .slice (some ⟨g2, 0, none⟩) ps.length c2, .int .i64 tk, .bool rc]) ((F1.out.row (gvs h (.slice (some ⟨g1, 0, none⟩) ds.length c1) nx (.slice (some ⟨g2, 0, none⟩) ps.length c2) tk rc)).res _ Tryz.results17 Tryz.underlying37 (by kernel_rfl) rfl) rfl ⟨g1, c1, g2, c2, rfl, (FD.out.row (by have := FD.out.bl.1; omega) _).base (by omega), (FP.out.row (by have := FP.out.bl.1; omega) _).base (by omega), by omega, below_row FB.out (by omega) _⟩
end Go.Proofs.YtdkikijnjkoddaaGreat

/-
  The program's copy of a group.
-/
namespace Go.Proofs.YtdkikijnjkoddaaGreat
open Go.RowKit Pl
set_option linter.unusedSimpArgs false
set_option linter.unusedVariables false

theorem infoDK13 : (Tryz.prog.info? 82).map (·.size) = some 13 := by kernel_rfl
/-- 'copy' of decks over a whole row of one's own. -/
theorem wpList_copy_dk {w : World} {ops : Array Oper} {rest : List Oper} {a : Act} {Q : Exit → Act → World → Prop} {d s : Operand} {dst : Option Tmp} {ty : TypeId} {ps : String} {af : Array Edge}
    (B g : Nat) (l m : List Dk) (hO : OwD w B g m.length m.length l) (sb so sc : Nat) (hd : a.eval d = .slice (some ⟨g, 0, none⟩) m.length m.length) (hs : a.eval s = .slice (some ⟨sb, so, none⟩) m.length sc)
    (hm : ∀ i p, m[i]? = some p → D13 w sb (so + i * 13) p)
    (h : ∀ w', OwD w' B g m.length m.length m → w.grownBy w' (some g) → wpList Tryz.prog ops Q rest (a.put dst (goInt m.length)) w') : wpList Tryz.prog ops Q ({ dst := dst, op := .call { callee := .builtin .copy, args := #[d, s], argTypes := #[32, 32] }, type := ty, pos := ps, after := af, guard := none } :: rest) a w := by
  refine wpList_plain rfl fun K hK => ?_
  obtain ⟨hln, hx, hr⟩ := hO
  rcases hr with ⟨e, _⟩ | ⟨g', cap', cur, e, hB, hg, hnc, hcm, hsz, htk⟩
  · cases e
  · cases e
    have hfm := flatD_length m
    have hmin : Nat.min m.length m.length = m.length := Nat.min_self _
    have hrun := run_copy_rows (P := Tryz.prog) w 32 32 ty 82 13 g 0 m.length m.length ⟨sb, so, none⟩ m.length sc cur 82 (flatD m) undDS infoDK13 hg (by rw [hfm, hmin]) (news_atD hm) (by rw [hfm, hsz]; omega) (flatD_one m)
    rw [hmin] at hrun
    have hrow : (cur.toList.take 0 ++ flatD m ++ cur.toList.drop (0 + (flatD m).length)) = flatD m := by
      rw [List.take_zero, List.nil_append, Nat.zero_add, hfm, ← hsz, List.drop_of_length_le (by simp), List.append_nil]
    rw [hrow] at hrun
    have hO' : OwD (w.setRow g (flatD m).toArray) B g m.length m.length m := by
      refine ⟨rfl, hfm, Or.inr ⟨g, m.length, _, rfl, hB, setRow_heap w g cur _ 82 _ hg, Nat.le_refl _, hcm, by simp [hfm], ?_⟩⟩
      rw [List.take_of_length_le (by simp [hfm])]
    have q := h _ hO' (grown_row _)
    unfold Oper.wp
    simp [execOp, resolve, invoke, builtin, hd, hs, hrun, Result.andThen]
    exact hK _ _ (by simpa using q)
set_option maxRecDepth 20000 in
set_option maxHeartbeats 16000000 in
theorem copiedGroup_any (h : Hs) (ds : List Dk) (gd dc : Nat) (nx : Int) (ps : List Pe) (gp pc : Nat) (tk : Int) (rc : Bool) (hld : ds.length ≤ 1048576) (hlp : ps.length ≤ 1048576) (w : World) (hI : GI w gd gp ds ps) : Calls Tryz.prog 26 #[.agg #[.int .i64 h.fl, .int .i64 h.gp, .int .i64 h.ln, .int .i64 h.rf, .int .i64 h.sp, .int .i64 h.pu, .int .i64 h.br, .int .i64 h.dr, .int .i64 h.lv, .int .i64 h.dO, .int .i64 h.ld, .int .i64 h.qu, .slice (some ⟨gd, 0, none⟩) ds.length dc, .int .i64 nx, .slice (some ⟨gp, 0, none⟩) ps.length pc, .int .i64 tk, .bool rc]] w (isCp w h ds nx ps tk rc) := by
  have FI0 : Hid (GI w gd gp ds ps) := hI
  have hmk := make_decks ds.length hld
  have F0 : Hid (Blk ((w.alloc (.cells #[.int .i64 h.fl, .int .i64 h.gp, .int .i64 h.ln, .int .i64 h.rf, .int .i64 h.sp, .int .i64 h.pu, .int .i64 h.br, .int .i64 h.dr, .int .i64 h.lv, .int .i64 h.dO, .int .i64 h.ld, .int .i64 h.qu, .slice (some ⟨gd, 0, none⟩) ds.length dc, .int .i64 nx, .slice (some ⟨gp, 0, none⟩) ps.length pc, .int .i64 tk, .bool rc] 37)).alloc (.cells #[.int .i64 0, .int .i64 0, .int .i64 0, .int .i64 0, .int .i64 0, .int .i64 0, .int .i64 0, .int .i64 0, .int .i64 0, .int .i64 0, .int .i64 0, .int .i64 0, .slice none 0 0, .int .i64 0, .slice none 0 0, .int .i64 0, .bool false] 37)) w.heap.size (gvs h (.slice (some ⟨gd, 0, none⟩) ds.length dc) nx (.slice (some ⟨gp, 0, none⟩) ps.length pc) tk rc)) := (Blk.at_ w #[.int .i64 h.fl, .int .i64 h.gp, .int .i64 h.ln, .int .i64 h.rf, .int .i64 h.sp, .int .i64 h.pu, .int .i64 h.br, .int .i64 h.dr, .int .i64 h.lv, .int .i64 h.dO, .int .i64 h.ld, .int .i64 h.qu, .slice (some ⟨gd, 0, none⟩) ds.length dc, .int .i64 nx, .slice (some ⟨gp, 0, none⟩) ps.length pc, .int .i64 tk, .bool rc] _ _ rfl).alloc _
  have F1 : Hid (Blk ((w.alloc (.cells #[.int .i64 h.fl, .int .i64 h.gp, .int .i64 h.ln, .int .i64 h.rf, .int .i64 h.sp, .int .i64 h.pu, .int .i64 h.br, .int .i64 h.dr, .int .i64 h.lv, .int .i64 h.dO, .int .i64 h.ld, .int .i64 h.qu, .slice (some ⟨gd, 0, none⟩) ds.length dc, .int .i64 nx, .slice (some ⟨gp, 0, none⟩) ps.length pc, .int .i64 tk, .bool rc] 37)).alloc (.cells #[.int .i64 0, .int .i64 0, .int .i64 0, .int .i64 0, .int .i64 0, .int .i64 0, .int .i64 0, .int .i64 0, .int .i64 0, .int .i64 0, .int .i64 0, .int .i64 0, .slice none 0 0, .int .i64 0, .slice none 0 0, .int .i64 0, .bool false] 37)) (w.heap.size + 1) (gvs zeroH (.slice none 0 0) 0 (.slice none 0 0) 0 false)) := Blk.at_ _ #[.int .i64 0, .int .i64 0, .int .i64 0, .int .i64 0, .int .i64 0, .int .i64 0, .int .i64 0, .int .i64 0, .int .i64 0, .int .i64 0, .int .i64 0, .int .i64 0, .slice none 0 0, .int .i64 0, .slice none 0 0, .int .i64 0, .bool false] _ _ (by simp)
  have FB : Hid (Below w.heap.size w ((w.alloc (.cells #[.int .i64 h.fl, .int .i64 h.gp, .int .i64 h.ln, .int .i64 h.rf, .int .i64 h.sp, .int .i64 h.pu, .int .i64 h.br, .int .i64 h.dr, .int .i64 h.lv, .int .i64 h.dO, .int .i64 h.ld, .int .i64 h.qu, .slice (some ⟨gd, 0, none⟩) ds.length dc, .int .i64 nx, .slice (some ⟨gp, 0, none⟩) ps.length pc, .int .i64 tk, .bool rc] 37)).alloc (.cells #[.int .i64 0, .int .i64 0, .int .i64 0, .int .i64 0, .int .i64 0, .int .i64 0, .int .i64 0, .int .i64 0, .int .i64 0, .int .i64 0, .int .i64 0, .int .i64 0, .slice none 0 0, .int .i64 0, .slice none 0 0, .int .i64 0, .bool false] 37))) := ((Below.refl _ _).alloc (Nat.le_refl _) _).alloc (by simp) _
  have FI : Hid (GI ((w.alloc (.cells #[.int .i64 h.fl, .int .i64 h.gp, .int .i64 h.ln, .int .i64 h.rf, .int .i64 h.sp, .int .i64 h.pu, .int .i64 h.br, .int .i64 h.dr, .int .i64 h.lv, .int .i64 h.dO, .int .i64 h.ld, .int .i64 h.qu, .slice (some ⟨gd, 0, none⟩) ds.length dc, .int .i64 nx, .slice (some ⟨gp, 0, none⟩) ps.length pc, .int .i64 tk, .bool rc] 37)).alloc (.cells #[.int .i64 0, .int .i64 0, .int .i64 0, .int .i64 0, .int .i64 0, .int .i64 0, .int .i64 0, .int .i64 0, .int .i64 0, .int .i64 0, .int .i64 0, .int .i64 0, .slice none 0 0, .int .i64 0, .slice none 0 0, .int .i64 0, .bool false] 37)) gd gp ds ps) := (hI.alloc _).alloc _
  have LI : Hid (gd < w.heap.size ∧ gp < w.heap.size) := ⟨hI.ld, hI.lp⟩
  obtain ⟨W0, hW0⟩ : ∃ W0, W0 = ((w.alloc (.cells #[.int .i64 h.fl, .int .i64 h.gp, .int .i64 h.ln, .int .i64 h.rf, .int .i64 h.sp, .int .i64 h.pu, .int .i64 h.br, .int .i64 h.dr, .int .i64 h.lv, .int .i64 h.dO, .int .i64 h.ld, .int .i64 h.qu, .slice (some ⟨gd, 0, none⟩) ds.length dc, .int .i64 nx, .slice (some ⟨gp, 0, none⟩) ps.length pc, .int .i64 tk, .bool rc] 37)).alloc (.cells #[.int .i64 0, .int .i64 0, .int .i64 0, .int .i64 0, .int .i64 0, .int .i64 0, .int .i64 0, .int .i64 0, .int .i64 0, .int .i64 0, .int .i64 0, .int .i64 0, .slice none 0 0, .int .i64 0, .slice none 0 0, .int .i64 0, .bool false] 37)) := ⟨_, rfl⟩
  rw [← hW0] at F0 F1 FB FI
  have HW0 : Hid (W0 = ((w.alloc (.cells #[.int .i64 h.fl, .int .i64 h.gp, .int .i64 h.ln, .int .i64 h.rf, .int .i64 h.sp, .int .i64 h.pu, .int .i64 h.br, .int .i64 h.dr, .int .i64 h.lv, .int .i64 h.dO, .int .i64 h.ld, .int .i64 h.qu, .slice (some ⟨gd, 0, none⟩) ds.length dc, .int .i64 nx, .slice (some ⟨gp, 0, none⟩) ps.length pc, .int .i64 tk, .bool rc] 37)).alloc (.cells #[.int .i64 0, .int .i64 0, .int .i64 0, .int .i64 0, .int .i64 0, .int .i64 0, .int .i64 0, .int .i64 0, .int .i64 0, .int .i64 0, .int .i64 0, .int .i64 0, .slice none 0 0, .int .i64 0, .slice none 0 0, .int .i64 0, .bool false] 37))) := hW0
  clear hW0 hI
  go_enter Tryz.func26, Tryz.ntmps26
  go_upto_region 1 with fail
  rw [← HW0.out]
  clear HW0
  have x12 := F0.out.c 12 _ rfl
  go_upto_region 2 with fail
  clear hmk x12
  obtain ⟨g1, hg1⟩ : ∃ b, b = W0.heap.size := ⟨_, rfl⟩
  obtain ⟨W1, hW⟩ : ∃ W, W = W0.alloc (.cells (madeCells (cellsD zeroD).toArray (ds.length * 13)) 82) := ⟨_, rfl⟩
  have l1 := F1.out.lt
  have FD : Hid (OwD W1 (w.heap.size + 2) g1 ds.length ds.length (List.replicate ds.length zeroD)) := by rw [hW, hg1]; exact own_madeD ds.length hld W0 _ (by omega)
  rw [← hg1] at l1
  have F0 : Hid (Blk W1 w.heap.size (gvs h (.slice (some ⟨gd, 0, none⟩) ds.length dc) nx (.slice (some ⟨gp, 0, none⟩) ps.length pc) tk rc)) := by rw [hW]; exact F0.out.alloc _
  have F1 : Hid (Blk W1 (w.heap.size + 1) (gvs zeroH (.slice none 0 0) 0 (.slice none 0 0) 0 false)) := by rw [hW]; exact F1.out.alloc _
  have FB : Hid (Below w.heap.size w W1) := by rw [hW]; exact FB.out.alloc FB.out.size _
  have FI : Hid (GI W1 gd gp ds ps) := by rw [hW]; exact FI.out.alloc _
  rw [← hW, ← hg1]
  clear hW hg1
  have x12 := F0.out.c 12 _ rfl
  go_upto_region 3 with (refine wpList_copy_dk (w.heap.size + 2) g1 (List.replicate ds.length zeroD) ds FD.out gd 0 dc rfl rfl FI.out.d ?_; intro w1 ho hg; have NEr : Hid (∀ b, b < g1 → some b ≠ some g1) := (fun b hb e => by have e2 : b = g1 := Option.some.inj e; omega); have F0 : Hid (Blk w1 w.heap.size (gvs h (.slice (some ⟨gd, 0, none⟩) ds.length dc) nx (.slice (some ⟨gp, 0, none⟩) ps.length pc) tk rc)) := F0.out.grown hg (NEr.out _ (by omega)); have F1 : Hid (Blk w1 (w.heap.size + 1) (gvs zeroH (.slice none 0 0) 0 (.slice none 0 0) 0 false)) := F1.out.grown hg (NEr.out _ (by omega)); have FB : Hid (Below w.heap.size w w1) := below_grown FB.out hg (fun j hj => by have e2 : g1 = j := Option.some.inj hj; omega) FB.out.size; have FD : Hid (OwD w1 (w.heap.size + 2) g1 ds.length ds.length (ds)) := ho; clear ho hg NEr)
  clear x12
  have k12 := F0.out.c 12 _ rfl
  have f12 := F0.out.f 12 (Nat.le_of_ble_eq_true rfl)
  go_upto_region 4 with fail
  obtain ⟨W2, hw_⟩ : ∃ W, W = w1.setCell ⟨w.heap.size, 12, none⟩ (.slice (some ⟨g1, 0, none⟩) ds.length ds.length) := ⟨_, rfl⟩
  rw [← hw_]
  have F0 : Hid (Blk W2 w.heap.size (gvs h (.slice (some ⟨g1, 0, none⟩) ds.length ds.length) nx (.slice (some ⟨gp, 0, none⟩) ps.length pc) tk rc)) := by rw [hw_]; exact F0.out.set _ (Nat.le_of_ble_eq_true rfl)
  have F1 : Hid (Blk W2 (w.heap.size + 1) (gvs zeroH (.slice none 0 0) 0 (.slice none 0 0) 0 false)) := by rw [hw_]; exact F1.out.other (by omega)
  have FD : Hid (OwD W2 (w.heap.size + 2) g1 ds.length ds.length (ds)) := by rw [hw_]; exact FD.out.other (p := ⟨w.heap.size, 12, none⟩) (by have := FD.out.bl.1; show _ ≠ w.heap.size; omega) _
  have FB : Hid (Below w.heap.size w W2) := by rw [hw_]; exact FB.out.setCell (by show w.heap.size ≤ w.heap.size; omega) _
  have FI : Hid (GI W2 gd gp ds ps) := FI0.out.below FB.out LI.out.1 LI.out.2
  clear hw_
  clear k12 f12
  have x14 := F0.out.c 14 _ rfl
  have ld := FD.out.bl.2
  go_upto_region 5 with (go_at_call 63; refine (copied_any ps (some ⟨gp, 0, none⟩) pc ps.length hlp (Nat.le_refl _) _ FI.out.pin).mono ?_; rintro e w3 ⟨g2, rfl, ho, hb⟩; rw [Nat.sub_self, List.replicate_zero, List.append_nil] at ho; have FP : Hid (Ow w3 (w.heap.size + 2) g2 ps.length ps.length ps) := ho.base (by have := F1.out.lt; omega); have l12 : g1 < g2 := Nat.lt_of_lt_of_le ld ho.bl.1; have F0 : Hid (Blk w3 w.heap.size (gvs h (.slice (some ⟨g1, 0, none⟩) ds.length ds.length) nx (.slice (some ⟨gp, 0, none⟩) ps.length pc) tk rc)) := F0.out.below hb F0.out.lt; have F1 : Hid (Blk w3 (w.heap.size + 1) (gvs zeroH (.slice none 0 0) 0 (.slice none 0 0) 0 false)) := F1.out.below hb F1.out.lt; have FD : Hid (OwD w3 (w.heap.size + 2) g1 ds.length ds.length (ds)) := FD.out.below hb FD.out.bl.2; have FB : Hid (Below w.heap.size w w3) := FB.out.trans (hb.mono FB.out.size); clear hb; clear ho; have k14 := F0.out.c 14 _ rfl; have f14 := F0.out.f 14 (Nat.le_of_ble_eq_true rfl))
  obtain ⟨W4, hw_⟩ : ∃ W, W = w3.setCell ⟨w.heap.size, 14, none⟩ (.slice (some ⟨g2, 0, none⟩) ps.length ps.length) := ⟨_, rfl⟩
  rw [← hw_]
  have F0 : Hid (Blk W4 w.heap.size (gvs h (.slice (some ⟨g1, 0, none⟩) ds.length ds.length) nx (.slice (some ⟨g2, 0, none⟩) ps.length ps.length) tk rc)) := by rw [hw_]; exact F0.out.set _ (Nat.le_of_ble_eq_true rfl)
  have F1 : Hid (Blk W4 (w.heap.size + 1) (gvs zeroH (.slice none 0 0) 0 (.slice none 0 0) 0 false)) := by rw [hw_]; exact F1.out.other (by omega)
  have FD : Hid (OwD W4 (w.heap.size + 2) g1 ds.length ds.length (ds)) := by rw [hw_]; exact FD.out.other (p := ⟨w.heap.size, 14, none⟩) (by have := FD.out.bl.1; show _ ≠ w.heap.size; omega) _
  have FP : Hid (Ow W4 (w.heap.size + 2) g2 ps.length ps.length ps) := by rw [hw_]; exact FP.out.other (p := ⟨w.heap.size, 14, none⟩) (by have := FP.out.bl.1; show _ ≠ w.heap.size; omega) _
  have FB : Hid (Below w.heap.size w W4) := by rw [hw_]; exact FB.out.setCell (by show w.heap.size ≤ w.heap.size; omega) _
  have FI : Hid (GI W4 gd gp ds ps) := FI0.out.below FB.out LI.out.1 LI.out.2
  clear hw_
  clear k14 f14 x14
  go_wp2_with (first | (refine load_blk 37 _ Tryz.underlying37 (by kernel_rfl) F0.out rfl rfl rfl ?_) | (refine store_blk (gvs h (.slice (some ⟨g1, 0, none⟩) ds.length ds.length) nx (.slice (some ⟨g2, 0, none⟩) ps.length ps.length) tk rc) 37 _ _ (by kernel_rfl) (by kernel_rfl) (by kernel_rfl) F1.out rfl rfl rfl rfl ?_))
  exact bodyPost_ret (v := .agg #[.int .i64 h.fl, .int .i64 h.gp, .int .i64 h.ln, .int .i64 h.rf, .int .i64 h.sp, .int .i64 h.pu, .int .i64 h.br, .int .i64 h.dr, .int .i64 h.lv, .int .i64 h.dO, .int .i64 h.ld, .int .i64 h.qu, .slice (some ⟨g1, 0, none⟩) ds.length ds.length, .int .i64 nx, .slice (some ⟨g2, 0, none⟩) ps.length ps.length, .int .i64 tk, .bool rc]) ((F1.out.row (gvs h (.slice (some ⟨g1, 0, none⟩) ds.length ds.length) nx (.slice (some ⟨g2, 0, none⟩) ps.length ps.length) tk rc)).res _ Tryz.results26 Tryz.underlying37 (by kernel_rfl) rfl) rfl ⟨g1, _, g2, _, rfl, (FD.out.row (by have := FD.out.bl.1; omega) _).base (by omega), (FP.out.row (by have := FP.out.bl.1; omega) _).base (by omega), by omega, below_row FB.out (by omega) _⟩
end Go.Proofs.YtdkikijnjkoddaaGreat
