/-
  The base of what follows: plain numbers, cells, contracts of the smallest functions.
-/
import Derived.Test.YtfmkanbhnpmpaaaGreatGrpR
import Derived.Test.YtfmkanbhnpmpaaaGreatPdf
import Derived.Laws.AppendOwnNone
import Derived.OwnWalk
import Derived.Test.YtfmkanbhnpmpaaaGreatLedF
import Derived.Test.YtfmkanbhnpmpaaaGreatPKo
import Derived.Test.YtfmkanbhnpmpaaaGreatGrp
import Derived.Test.YtfmkanbhnpmpaaaGreatGfS
import Derived.BigGuardPart
import Derived.Test.YtfmkanbhnpmpaaaGreatGfI
import Derived.Test.YtfmkanbhnpmpaaaGreatLedI
import Derived.Test.YtfmkanbhnpmpaaaGreatPersT
import Derived.Test.YtfmkanbhnpmpaaaGreatFnd
import Derived.ChangeArms
import Derived.Deep.Slices
import Derived.Test.YtfmkanbhnpmpaaaGreatGrpB
/-
  Blocks and rows behind a mark of two other rows.
-/
namespace Go.Proofs.YtfmkanbhnpmpaaaGreat
open Go.RowKit Pl
set_option linter.unusedSimpArgs false
set_option linter.unusedVariables false

theorem OwnD.of {W w : World} {B : Nat} {v : Value} {l : List Dk} (h : OwnD W B v l) (hb : ∀ k, v.ownBlock = some k → w.heap[k]? = W.heap[k]?) : OwnD w B v l := by
  refine ⟨h.1, ?_⟩
  rcases h.2 with hn | ⟨g, cap, cur, rfl, hB, hg, rest⟩
  · exact Or.inl hn
  · exact Or.inr ⟨g, cap, cur, rfl, hB, (hb g rfl).trans hg, rest⟩
theorem Own.of {W w : World} {B : Nat} {v : Value} {l : List Pe} (h : Own W B v l) (hb : ∀ k, v.ownBlock = some k → w.heap[k]? = W.heap[k]?) : Own w B v l := by
  refine ⟨h.1, ?_⟩
  rcases h.2 with hn | ⟨g, cap, cur, rfl, hB, hg, rest⟩
  · exact Or.inl hn
  · exact Or.inr ⟨g, cap, cur, rfl, hB, (hb g rfl).trans hg, rest⟩
theorem Blk.turn {W w : World} {b : Nat} {vs : List Value} {u v : Value} (a : Blk W b vs) (t : Turn2 W w u v) (hu : u.ownBlock ≠ some b) (hv : v.ownBlock ≠ some b) : Blk w b vs := a.of (t.block b a.lt (fun e => hu e.symm) (fun e => hv e.symm))
theorem OwnD.turn {W w : World} {B : Nat} {x u v : Value} {l : List Dk} (h : OwnD W B x l) (t : Turn2 W w u v) (hu : ∀ k, x.ownBlock = some k → u.ownBlock ≠ some k) (hv : ∀ k, x.ownBlock = some k → v.ownBlock ≠ some k) : OwnD w B x l :=
  h.of (fun k hk => t.block k (h.lt k hk).2 (fun e => hu k hk e.symm) (fun e => hv k hk e.symm))
theorem Own.turn {W w : World} {B : Nat} {x u v : Value} {l : List Pe} (h : Own W B x l) (t : Turn2 W w u v) (hu : ∀ k, x.ownBlock = some k → u.ownBlock ≠ some k) (hv : ∀ k, x.ownBlock = some k → v.ownBlock ≠ some k) : Own w B x l :=
  h.of (fun k hk => t.block k (h.lt k hk).2 (fun e => hu k hk e.symm) (fun e => hv k hk e.symm))
/-- An own slice can be read. -/
theorem OwnD.din {w : World} {B n c : Nat} {a : Option Addr} {l : List Dk} (h : OwnD w B (.slice a n c) l) : DIn w w.heap.size a l := by
  obtain ⟨a', c', e, hd⟩ := h.pin
  injection e with e1
  subst e1
  exact hd
theorem Own.din {w : World} {B n c : Nat} {a : Option Addr} {l : List Pe} (h : Own w B (.slice a n c) l) : PIn w w.heap.size a l := by
  rcases h.cases with ⟨e, hl⟩ | ⟨g, cap, e, hB, hg, _⟩
  · subst hl
    injection e with e1
    subst e1
    exact Or.inl rfl
  · injection e with e1 e2 e3
    subst e1 e2 e3
    refine Or.inr ⟨g, 0, rfl, hg, fun i p hp => ?_⟩
    rw [Nat.zero_add]
    exact (Own.ow h).p7 hp
theorem Own.base' {w : World} {B C : Nat} {v : Value} {l : List Pe} (h : Own w B v l) (hC : C ≤ B) : Own w C v l := by
  refine ⟨h.1, ?_⟩
  rcases h.2 with hn | ⟨g, cap, cur, e, hB, rest⟩
  · exact Or.inl hn
  · exact Or.inr ⟨g, cap, cur, e, Nat.le_trans hC hB, rest⟩
theorem Turn2.below' {B : Nat} {a w w' : World} {u v : Value} (k : Turn2 w w' u v) (h : Below B a w) (hu : ∀ j, u.ownBlock = some j → B ≤ j) (hv : ∀ j, v.ownBlock = some j → B ≤ j) (hB : B ≤ w.heap.size := by omega) : Below B a w' := Turn2.below h k hu hv hB
theorem load_blkg {ops : Array Oper} {rest : List Oper} {o : Oper} {act : Act} {w : World} {Q : Exit → Act → World → Prop} {b : Nat} {vs : List Value} (T : TypeId) (x : Operand) {fs : Array Field} (hu : Tryz.prog.underlying T = some (.struct fs)) (hi : (Tryz.prog.info? T).map (·.size) = some vs.toArray.size) (hB : Blk w b vs)
    (hw : Region.wanted o (yielded ops act.tmps) = true) (ho : o.op = .load T x) (hx : act.eval x = .pointer (some ⟨b, 0, none⟩)) (h : wpList Tryz.prog ops Q rest (act.put o.dst (.agg vs.toArray)) w) : wpList Tryz.prog ops Q (o :: rest) act w := by
  obtain ⟨T', h'⟩ := hB.o
  exact wpList_step fun K hK => by simp only [hw, if_true]; exact wp_load_row T x ho b hx T' vs.toArray (0, 0) (.struct fs) h' hu rfl hi (hK _ _ h)
end Go.Proofs.YtfmkanbhnpmpaaaGreat

/-
  A group that is handed in, and its copy, in plain; the model's copy.
-/
namespace Go.Proofs.YtfmkanbhnpmpaaaGreat
open Go.RowKit Pl
set_option linter.unusedSimpArgs false
set_option linter.unusedVariables false

/-- A group's two rows can be read. -/
structure GI (w : World) (gd gp : Nat) (ds : List Dk) (ps : List Pe) : Prop where
  d : ∀ i p, ds[i]? = some p → D13 w gd (0 + i * 13) p
  p : ∀ i p, ps[i]? = some p → P7 w gp (0 + i * 7) p
  ld : gd < w.heap.size
  lp : gp < w.heap.size
theorem GI.below {W w : World} {B gd gp : Nat} {ds : List Dk} {ps : List Pe} (a : GI W gd gp ds ps) (hb : Below B W w) (h1 : gd < B := by omega) (h2 : gp < B := by omega) : GI w gd gp ds ps :=
  ⟨fun i p hp => (a.d i p hp).below hb h1, fun i p hp => (a.p i p hp).below hb h2, Nat.lt_of_lt_of_le a.ld hb.size, Nat.lt_of_lt_of_le a.lp hb.size⟩
theorem GI.alloc {W : World} {gd gp : Nat} {ds : List Dk} {ps : List Pe} (a : GI W gd gp ds ps) (o : Obj) : GI (W.alloc o) gd gp ds ps := a.below ((Below.refl _ _).alloc (Nat.le_refl _) o) a.ld a.lp
theorem GI.din {w : World} {gd gp : Nat} {ds : List Dk} {ps : List Pe} (a : GI w gd gp ds ps) : DIn w w.heap.size (some ⟨gd, 0, none⟩) ds := Or.inr ⟨gd, 0, rfl, a.ld, a.d⟩
theorem GI.pin {w : World} {gd gp : Nat} {ds : List Dk} {ps : List Pe} (a : GI w gd gp ds ps) : PIn w w.heap.size (some ⟨gp, 0, none⟩) ps := Or.inr ⟨gp, 0, rfl, a.lp, a.p⟩
theorem GI.of {w : World} {B C gd gp n c m k : Nat} {ds : List Dk} {ps : List Pe} (hd : OwD w B gd n c ds) (hp : Ow w C gp m k ps) : GI w gd gp ds ps :=
  ⟨fun i p h => by rw [Nat.zero_add]; exact hd.d13 h, fun i p h => by rw [Nat.zero_add]; exact hp.p7 h, hd.bl.2, hp.bl.2⟩
theorem GO.gi {w : World} {B gd gp : Nat} {ds : List Dk} {ps : List Pe} (a : GO w B gd gp ds ps) : GI w gd gp ds ps := GI.of a.d a.p
/-- What a copy answers. -/
def isCp (w : World) (h : Hs) (ds : List Dk) (nx : Int) (ps : List Pe) (tk : Int) (rc : Bool) (e : Ending) (w' : World) : Prop :=
  ∃ g1 c1 g2 c2, e = .returned (.agg #[.int .i64 h.fl, .int .i64 h.gp, .int .i64 h.ln, .int .i64 h.rf, .int .i64 h.sp, .int .i64 h.pu, .int .i64 h.br, .int .i64 h.dr, .int .i64 h.lv, .int .i64 h.dO, .int .i64 h.ld, .int .i64 h.qu, .slice (some ⟨g1, 0, none⟩) ds.length c1, .int .i64 nx, .slice (some ⟨g2, 0, none⟩) ps.length c2, .int .i64 tk, .bool rc]) ∧ OwD w' w.heap.size g1 ds.length c1 ds ∧ Ow w' w.heap.size g2 ps.length c2 ps ∧ g1 ≠ g2 ∧ Below w.heap.size w w'
theorem own_emptyD (w : World) (B : Nat) (hB : B ≤ w.heap.size) : OwnD (w.alloc (.cells #[] 61)) B (.slice (some ⟨w.heap.size, 0, none⟩) 0 0) [] :=
  World.ownsRow_made (base := B) (e := 61) (size := 13) w #[] 0 hB (by unfold maxLen; omega) rfl
theorem wpList_append_dk {w : World} {a : Act} {ops : Array Oper} {rest : List Oper} {Q : Exit → Act → World → Prop} {s x : Operand} {dst : Option Tmp} {ty : TypeId} {ps : String} {af : Array Edge}
    (B : Nat) (v : Value) (l m L : List Dk) (N : Nat) (hL : l ++ m = L) (hN : L.length = N) (hs : a.eval s = v) (hown : OwnD w B v l) (b o c : Nat) (hx : a.eval x = .slice (some ⟨b, o, none⟩) m.length c)
    (hm : ∀ i p, m[i]? = some p → D13 w b (o + i * 13) p) (hn : v ≠ .slice none 0 0 ∨ 0 < m.length) (hlen : l.length + m.length ≤ 2097152) (hB : B ≤ w.heap.size)
    (h : ∀ g' c' w', OwnD w' B (.slice (some ⟨g', 0, none⟩) N c') L → w.grownBy w' v.ownBlock → wpList Tryz.prog ops Q rest (a.put dst (.slice (some ⟨g', 0, none⟩) N c')) w') :
    wpList Tryz.prog ops Q ({ dst := dst, op := .call { callee := .builtin .append, args := #[s, x], argTypes := #[32, 32] }, type := ty, pos := ps, after := af, guard := none } :: rest) a w :=
  wpList_plain rfl fun K hK => wp_append_dk B v l m L N hL hN hs hown b o c hx hm hn hlen hB (fun g' c' w' h1 h2 => hK _ _ (h g' c' w' h1 h2))
set_option maxRecDepth 20000 in
set_option maxHeartbeats 16000000 in
theorem l8Copy_any (h : Hs) (ds : List Dk) (gd dc : Nat) (nx : Int) (ps : List Pe) (gp pc : Nat) (tk : Int) (rc : Bool) (hld : ds.length ≤ 1048576) (hlp : ps.length ≤ 1048576) (w : World) (hI : GI w gd gp ds ps) : Calls Tryz.prog 19 #[.agg #[.int .i64 h.fl, .int .i64 h.gp, .int .i64 h.ln, .int .i64 h.rf, .int .i64 h.sp, .int .i64 h.pu, .int .i64 h.br, .int .i64 h.dr, .int .i64 h.lv, .int .i64 h.dO, .int .i64 h.ld, .int .i64 h.qu, .slice (some ⟨gd, 0, none⟩) ds.length dc, .int .i64 nx, .slice (some ⟨gp, 0, none⟩) ps.length pc, .int .i64 tk, .bool rc]] w (isCp w h ds nx ps tk rc) := by
  have FI0 : Hid (GI w gd gp ds ps) := hI
  have F0 : Hid (Blk ((w.alloc (.cells #[.int .i64 h.fl, .int .i64 h.gp, .int .i64 h.ln, .int .i64 h.rf, .int .i64 h.sp, .int .i64 h.pu, .int .i64 h.br, .int .i64 h.dr, .int .i64 h.lv, .int .i64 h.dO, .int .i64 h.ld, .int .i64 h.qu, .slice (some ⟨gd, 0, none⟩) ds.length dc, .int .i64 nx, .slice (some ⟨gp, 0, none⟩) ps.length pc, .int .i64 tk, .bool rc] 37)).alloc (.cells #[.int .i64 0, .int .i64 0, .int .i64 0, .int .i64 0, .int .i64 0, .int .i64 0, .int .i64 0, .int .i64 0, .int .i64 0, .int .i64 0, .int .i64 0, .int .i64 0, .slice none 0 0, .int .i64 0, .slice none 0 0, .int .i64 0, .bool false] 37)) w.heap.size (gvs h (.slice (some ⟨gd, 0, none⟩) ds.length dc) nx (.slice (some ⟨gp, 0, none⟩) ps.length pc) tk rc)) := (Blk.at_ w #[.int .i64 h.fl, .int .i64 h.gp, .int .i64 h.ln, .int .i64 h.rf, .int .i64 h.sp, .int .i64 h.pu, .int .i64 h.br, .int .i64 h.dr, .int .i64 h.lv, .int .i64 h.dO, .int .i64 h.ld, .int .i64 h.qu, .slice (some ⟨gd, 0, none⟩) ds.length dc, .int .i64 nx, .slice (some ⟨gp, 0, none⟩) ps.length pc, .int .i64 tk, .bool rc] _ _ rfl).alloc _
  have F1 : Hid (Blk ((w.alloc (.cells #[.int .i64 h.fl, .int .i64 h.gp, .int .i64 h.ln, .int .i64 h.rf, .int .i64 h.sp, .int .i64 h.pu, .int .i64 h.br, .int .i64 h.dr, .int .i64 h.lv, .int .i64 h.dO, .int .i64 h.ld, .int .i64 h.qu, .slice (some ⟨gd, 0, none⟩) ds.length dc, .int .i64 nx, .slice (some ⟨gp, 0, none⟩) ps.length pc, .int .i64 tk, .bool rc] 37)).alloc (.cells #[.int .i64 0, .int .i64 0, .int .i64 0, .int .i64 0, .int .i64 0, .int .i64 0, .int .i64 0, .int .i64 0, .int .i64 0, .int .i64 0, .int .i64 0, .int .i64 0, .slice none 0 0, .int .i64 0, .slice none 0 0, .int .i64 0, .bool false] 37)) (w.heap.size + 1) (gvs zeroH (.slice none 0 0) 0 (.slice none 0 0) 0 false)) := Blk.at_ _ #[.int .i64 0, .int .i64 0, .int .i64 0, .int .i64 0, .int .i64 0, .int .i64 0, .int .i64 0, .int .i64 0, .int .i64 0, .int .i64 0, .int .i64 0, .int .i64 0, .slice none 0 0, .int .i64 0, .slice none 0 0, .int .i64 0, .bool false] _ _ (by simp)
  have FB : Hid (Below w.heap.size w ((w.alloc (.cells #[.int .i64 h.fl, .int .i64 h.gp, .int .i64 h.ln, .int .i64 h.rf, .int .i64 h.sp, .int .i64 h.pu, .int .i64 h.br, .int .i64 h.dr, .int .i64 h.lv, .int .i64 h.dO, .int .i64 h.ld, .int .i64 h.qu, .slice (some ⟨gd, 0, none⟩) ds.length dc, .int .i64 nx, .slice (some ⟨gp, 0, none⟩) ps.length pc, .int .i64 tk, .bool rc] 37)).alloc (.cells #[.int .i64 0, .int .i64 0, .int .i64 0, .int .i64 0, .int .i64 0, .int .i64 0, .int .i64 0, .int .i64 0, .int .i64 0, .int .i64 0, .int .i64 0, .int .i64 0, .slice none 0 0, .int .i64 0, .slice none 0 0, .int .i64 0, .bool false] 37))) := ((Below.refl _ _).alloc (Nat.le_refl _) _).alloc (by simp) _
  have FI : Hid (GI ((w.alloc (.cells #[.int .i64 h.fl, .int .i64 h.gp, .int .i64 h.ln, .int .i64 h.rf, .int .i64 h.sp, .int .i64 h.pu, .int .i64 h.br, .int .i64 h.dr, .int .i64 h.lv, .int .i64 h.dO, .int .i64 h.ld, .int .i64 h.qu, .slice (some ⟨gd, 0, none⟩) ds.length dc, .int .i64 nx, .slice (some ⟨gp, 0, none⟩) ps.length pc, .int .i64 tk, .bool rc] 37)).alloc (.cells #[.int .i64 0, .int .i64 0, .int .i64 0, .int .i64 0, .int .i64 0, .int .i64 0, .int .i64 0, .int .i64 0, .int .i64 0, .int .i64 0, .int .i64 0, .int .i64 0, .slice none 0 0, .int .i64 0, .slice none 0 0, .int .i64 0, .bool false] 37)) gd gp ds ps) := (hI.alloc _).alloc _
  have LI : Hid (gd < w.heap.size ∧ gp < w.heap.size) := ⟨hI.ld, hI.lp⟩
  obtain ⟨W0, hW0⟩ : ∃ W0, W0 = ((w.alloc (.cells #[.int .i64 h.fl, .int .i64 h.gp, .int .i64 h.ln, .int .i64 h.rf, .int .i64 h.sp, .int .i64 h.pu, .int .i64 h.br, .int .i64 h.dr, .int .i64 h.lv, .int .i64 h.dO, .int .i64 h.ld, .int .i64 h.qu, .slice (some ⟨gd, 0, none⟩) ds.length dc, .int .i64 nx, .slice (some ⟨gp, 0, none⟩) ps.length pc, .int .i64 tk, .bool rc] 37)).alloc (.cells #[.int .i64 0, .int .i64 0, .int .i64 0, .int .i64 0, .int .i64 0, .int .i64 0, .int .i64 0, .int .i64 0, .int .i64 0, .int .i64 0, .int .i64 0, .int .i64 0, .slice none 0 0, .int .i64 0, .slice none 0 0, .int .i64 0, .bool false] 37)) := ⟨_, rfl⟩
  rw [← hW0] at F0 F1 FB FI
  have HW0 : Hid (W0 = ((w.alloc (.cells #[.int .i64 h.fl, .int .i64 h.gp, .int .i64 h.ln, .int .i64 h.rf, .int .i64 h.sp, .int .i64 h.pu, .int .i64 h.br, .int .i64 h.dr, .int .i64 h.lv, .int .i64 h.dO, .int .i64 h.ld, .int .i64 h.qu, .slice (some ⟨gd, 0, none⟩) ds.length dc, .int .i64 nx, .slice (some ⟨gp, 0, none⟩) ps.length pc, .int .i64 tk, .bool rc] 37)).alloc (.cells #[.int .i64 0, .int .i64 0, .int .i64 0, .int .i64 0, .int .i64 0, .int .i64 0, .int .i64 0, .int .i64 0, .int .i64 0, .int .i64 0, .int .i64 0, .int .i64 0, .slice none 0 0, .int .i64 0, .slice none 0 0, .int .i64 0, .bool false] 37))) := hW0
  clear hW0 hI
  have FE : Hid (OwnD (W0.alloc (.cells #[] 61)) W0.heap.size (.slice (some ⟨W0.heap.size, 0, none⟩) 0 0) []) := own_emptyD W0 _ (Nat.le_refl _)
  have l0 := F0.out.lt
  have l1 := F1.out.lt
  obtain ⟨WE, hWE⟩ : ∃ WE, WE = W0.alloc (.cells #[] 61) := ⟨_, rfl⟩
  obtain ⟨ge, hge⟩ : ∃ ge, ge = W0.heap.size := ⟨_, rfl⟩
  rw [← hWE, ← hge] at FE
  rw [← hge] at l0 l1
  have F0 : Hid (Blk WE w.heap.size (gvs h (.slice (some ⟨gd, 0, none⟩) ds.length dc) nx (.slice (some ⟨gp, 0, none⟩) ps.length pc) tk rc)) := by rw [hWE]; exact F0.out.alloc _
  have F1 : Hid (Blk WE (w.heap.size + 1) (gvs zeroH (.slice none 0 0) 0 (.slice none 0 0) 0 false)) := by rw [hWE]; exact F1.out.alloc _
  have FB : Hid (Below w.heap.size w WE) := by rw [hWE]; exact FB.out.alloc FB.out.size _
  have FI : Hid (GI WE gd gp ds ps) := by rw [hWE]; exact FI.out.alloc _
  have HWE : Hid (W0.alloc (.cells #[] 61) = WE ∧ W0.heap.size = ge) := ⟨hWE.symm, hge.symm⟩
  have sE : ge < WE.heap.size := (FE.out.lt ge rfl).2
  clear hWE hge
  go_enter Tryz.func19, Tryz.ntmps19
  go_upto_region 1 with fail
  rw [← HW0.out]
  clear HW0
  have y12 := F0.out.c 12 _ rfl
  have z12 : (W0.alloc (.cells #[] 61)).cell? ⟨w.heap.size, 12, none⟩ = _ := (congrArg (fun W => World.cell? W ⟨w.heap.size, 12, none⟩) HWE.out.1).trans y12
  go_upto_region 2 with (first | (at_builtin; refine wpList_append_dk ge (.slice (some ⟨ge, 0, none⟩) 0 0) [] ds ds ds.length (List.nil_append _) rfl (by rw [← HWE.out.2]; rfl) (by rw [HWE.out.1]; exact FE.out) gd 0 dc rfl (by rw [HWE.out.1]; exact FI.out.d) (Or.inl (fun e => by cases e)) (by simp; omega) (by rw [HWE.out.1]; omega) ?_; rw [HWE.out.1]; intro g1 c1 w1 ho hg; have NEr : Hid (∀ b, b < ge → some b ≠ (Value.slice (some ⟨ge, 0, none⟩) 0 0).ownBlock) := (fun b hb e => by have e2 : b = ge := Option.some.inj e; omega); have F0 : Hid (Blk w1 w.heap.size (gvs h (.slice (some ⟨gd, 0, none⟩) ds.length dc) nx (.slice (some ⟨gp, 0, none⟩) ps.length pc) tk rc)) := F0.out.grown hg (NEr.out _ (by omega)); have F1 : Hid (Blk w1 (w.heap.size + 1) (gvs zeroH (.slice none 0 0) 0 (.slice none 0 0) 0 false)) := F1.out.grown hg (NEr.out _ (by omega)); have FB : Hid (Below w.heap.size w w1) := below_grown FB.out hg (fun j hj => by have e2 : ge = j := Option.some.inj hj; omega) FB.out.size; have FD : Hid (OwD w1 (w.heap.size + 2) g1 ds.length c1 ds) := ((OwnD.ow ho).base (by omega)); have k12 := F0.out.c 12 _ rfl; have f12 := F0.out.f 12 (Nat.le_of_ble_eq_true rfl); clear ho hg NEr))
  obtain ⟨W2, hw_⟩ : ∃ W, W = w1.setCell ⟨w.heap.size, 12, none⟩ (.slice (some ⟨g1, 0, none⟩) ds.length c1) := ⟨_, rfl⟩
  rw [← hw_]
  have F0 : Hid (Blk W2 w.heap.size (gvs h (.slice (some ⟨g1, 0, none⟩) ds.length c1) nx (.slice (some ⟨gp, 0, none⟩) ps.length pc) tk rc)) := by rw [hw_]; exact F0.out.set _ (Nat.le_of_ble_eq_true rfl)
  have F1 : Hid (Blk W2 (w.heap.size + 1) (gvs zeroH (.slice none 0 0) 0 (.slice none 0 0) 0 false)) := by rw [hw_]; exact F1.out.other (by omega)
  have FD : Hid (OwD W2 (w.heap.size + 2) g1 ds.length c1 ds) := by rw [hw_]; exact FD.out.other (p := ⟨w.heap.size, 12, none⟩) (by have := FD.out.bl.1; show _ ≠ w.heap.size; omega) _
  have FB : Hid (Below w.heap.size w W2) := by rw [hw_]; exact FB.out.setCell (by show w.heap.size ≤ w.heap.size; omega) _
  have FI : Hid (GI W2 gd gp ds ps) := FI0.out.below FB.out LI.out.1 LI.out.2
  clear hw_
  clear k12 f12 y12 z12 FE HWE l0 l1 sE
  have x13 := F0.out.c 13 _ rfl
  have x14 := F0.out.c 14 _ rfl
  have ld := FD.out.bl.2
  go_upto_region 3 with (go_at_call 42; refine (l7Copy_any nx gp 0 pc ps hlp _ FI.out.p).mono ?_; rintro e w3 ⟨g2, c2, rfl, ho, hb⟩; have FP : Hid (Ow w3 (w.heap.size + 2) g2 ps.length c2 ps) := ho.base (by have := F1.out.lt; omega); have l12 : g1 < g2 := Nat.lt_of_lt_of_le ld ho.bl.1; have F0 : Hid (Blk w3 w.heap.size (gvs h (.slice (some ⟨g1, 0, none⟩) ds.length c1) nx (.slice (some ⟨gp, 0, none⟩) ps.length pc) tk rc)) := F0.out.below hb F0.out.lt; have F1 : Hid (Blk w3 (w.heap.size + 1) (gvs zeroH (.slice none 0 0) 0 (.slice none 0 0) 0 false)) := F1.out.below hb F1.out.lt; have FD : Hid (OwD w3 (w.heap.size + 2) g1 ds.length c1 ds) := FD.out.below hb FD.out.bl.2; have FB : Hid (Below w.heap.size w w3) := FB.out.trans (hb.mono FB.out.size); clear hb; clear ho; have k13 := F0.out.c 13 _ rfl; have k14 := F0.out.c 14 _ rfl; have f13 := F0.out.f 13 (Nat.le_of_ble_eq_true rfl); have f14 := F0.out.f 14 (Nat.le_of_ble_eq_true rfl))
  obtain ⟨W4, hw_⟩ : ∃ W4, W4 = (w3.setCell ⟨w.heap.size, 13, none⟩ (.int .i64 nx)).setCell ⟨w.heap.size, 14, none⟩ (.slice (some ⟨g2, 0, none⟩) ps.length c2) := ⟨_, rfl⟩
  rw [← hw_]
  have F0 : Hid (Blk W4 w.heap.size (gvs h (.slice (some ⟨g1, 0, none⟩) ds.length c1) nx (.slice (some ⟨g2, 0, none⟩) ps.length c2) tk rc)) := by rw [hw_]; exact putB_set [.int .i64 nx, .slice (some ⟨g2, 0, none⟩) ps.length c2] _ 13 w3 F0.out (Nat.le_of_ble_eq_true rfl)
  have F1 : Hid (Blk W4 (w.heap.size + 1) (gvs zeroH (.slice none 0 0) 0 (.slice none 0 0) 0 false)) := by rw [hw_]; exact Blk.putB_other (by omega) [.int .i64 nx, .slice (some ⟨g2, 0, none⟩) ps.length c2] 13 F1.out
  have FD : Hid (OwD W4 (w.heap.size + 2) g1 ds.length c1 ds) := by rw [hw_]; exact OwD.putB (by have := FD.out.bl.1; omega) [.int .i64 nx, .slice (some ⟨g2, 0, none⟩) ps.length c2] 13 _ FD.out
  have FP : Hid (Ow W4 (w.heap.size + 2) g2 ps.length c2 ps) := by rw [hw_]; exact Ow.putB (by have := FP.out.bl.1; omega) [.int .i64 nx, .slice (some ⟨g2, 0, none⟩) ps.length c2] 13 _ FP.out
  have FB : Hid (Below w.heap.size w W4) := by rw [hw_]; exact below_putB FB.out (by omega) [.int .i64 nx, .slice (some ⟨g2, 0, none⟩) ps.length c2] 13
  clear hw_
  clear k13 k14 f13 f14 x13 x14
  go_wp2_with (first | (refine load_blk 37 _ Tryz.underlying37 (by kernel_rfl) F0.out rfl rfl rfl ?_) | (refine store_blk (gvs h (.slice (some ⟨g1, 0, none⟩) ds.length c1) nx (.slice (some ⟨g2, 0, none⟩) ps.length c2) tk rc) 37 _ _ (by kernel_rfl) (by kernel_rfl) (by kernel_rfl) F1.out rfl rfl rfl rfl ?_))
  exact bodyPost_ret (v := .agg #[.int .i64 h.fl, .int .i64 h.gp, .int .i64 h.ln, .int .i64 h.rf, .int .i64 h.sp, .int .i64 h.pu, .int .i64 h.br, .int .i64 h.dr, .int .i64 h.lv, .int .i64 h.dO, .int .i64 h.ld, .int .i64 h.qu, .slice (some ⟨g1, 0, none⟩) ds.length c1, .int .i64 nx, .slice (some ⟨g2, 0, none⟩) ps.length c2, .int .i64 tk, .bool rc]) ((F1.out.row (gvs h (.slice (some ⟨g1, 0, none⟩) ds.length c1) nx (.slice (some ⟨g2, 0, none⟩) ps.length c2) tk rc)).res _ Tryz.results19 Tryz.underlying37 (by kernel_rfl) rfl) rfl ⟨g1, c1, g2, c2, rfl, (FD.out.row (by have := FD.out.bl.1; omega) _).base (by omega), (FP.out.row (by have := FP.out.bl.1; omega) _).base (by omega), by omega, below_row FB.out (by omega) _⟩
end Go.Proofs.YtfmkanbhnpmpaaaGreat

/-
  The program's copy of a group.
-/
namespace Go.Proofs.YtfmkanbhnpmpaaaGreat
open Go.RowKit Pl
set_option linter.unusedSimpArgs false
set_option linter.unusedVariables false

theorem infoDK13 : (Tryz.prog.info? 61).map (·.size) = some 13 := by kernel_rfl
/-- 'copy' of decks over a whole row of one's own. -/
theorem wpList_copy_dk {w : World} {ops : Array Oper} {rest : List Oper} {a : Act} {Q : Exit → Act → World → Prop} {d s : Operand} {dst : Option Tmp} {ty : TypeId} {ps : String} {af : Array Edge}
    (B g : Nat) (l m : List Dk) (hO : OwD w B g m.length m.length l) (sb so sc : Nat) (hd : a.eval d = .slice (some ⟨g, 0, none⟩) m.length m.length) (hs : a.eval s = .slice (some ⟨sb, so, none⟩) m.length sc)
    (hm : ∀ i p, m[i]? = some p → D13 w sb (so + i * 13) p)
    (h : ∀ w', OwD w' B g m.length m.length m → w.grownBy w' (some g) → wpList Tryz.prog ops Q rest (a.put dst (goInt m.length)) w') : wpList Tryz.prog ops Q ({ dst := dst, op := .call { callee := .builtin .copy, args := #[d, s], argTypes := #[32, 32] }, type := ty, pos := ps, after := af, guard := none } :: rest) a w := by
  refine wpList_plain rfl fun K hK => ?_
  obtain ⟨hln, hx, hr⟩ := hO
  rcases hr with ⟨e, _⟩ | ⟨g', cap', cur, e, hB, hg, hnc, hcm, hsz, htk⟩
  · cases e
  · cases e
    have hfm := flatD_length m
    have hmin : Nat.min m.length m.length = m.length := Nat.min_self _
    have hrun := run_copy_rows (P := Tryz.prog) w 32 32 ty 61 13 g 0 m.length m.length ⟨sb, so, none⟩ m.length sc cur 61 (flatD m) undDS infoDK13 hg (by rw [hfm, hmin]) (news_atD hm) (by rw [hfm, hsz]; omega) (flatD_one m)
    rw [hmin] at hrun
    have hrow : (cur.toList.take 0 ++ flatD m ++ cur.toList.drop (0 + (flatD m).length)) = flatD m := by
      rw [List.take_zero, List.nil_append, Nat.zero_add, hfm, ← hsz, List.drop_of_length_le (by simp), List.append_nil]
    rw [hrow] at hrun
    have hO' : OwD (w.setRow g (flatD m).toArray) B g m.length m.length m := by
      refine ⟨rfl, hfm, Or.inr ⟨g, m.length, _, rfl, hB, setRow_heap w g cur _ 61 _ hg, Nat.le_refl _, hcm, by simp [hfm], ?_⟩⟩
      rw [List.take_of_length_le (by simp [hfm])]
    have q := h _ hO' (grown_row _)
    unfold Oper.wp
    simp [execOp, resolve, invoke, builtin, hd, hs, hrun, Result.andThen]
    exact hK _ _ (by simpa using q)
set_option maxRecDepth 20000 in
set_option maxHeartbeats 16000000 in
theorem copiedGroup_any (h : Hs) (ds : List Dk) (gd dc : Nat) (nx : Int) (ps : List Pe) (gp pc : Nat) (tk : Int) (rc : Bool) (hld : ds.length ≤ 1048576) (hlp : ps.length ≤ 1048576) (w : World) (hI : GI w gd gp ds ps) : Calls Tryz.prog 26 #[.agg #[.int .i64 h.fl, .int .i64 h.gp, .int .i64 h.ln, .int .i64 h.rf, .int .i64 h.sp, .int .i64 h.pu, .int .i64 h.br, .int .i64 h.dr, .int .i64 h.lv, .int .i64 h.dO, .int .i64 h.ld, .int .i64 h.qu, .slice (some ⟨gd, 0, none⟩) ds.length dc, .int .i64 nx, .slice (some ⟨gp, 0, none⟩) ps.length pc, .int .i64 tk, .bool rc]] w (isCp w h ds nx ps tk rc) := by
  have FI0 : Hid (GI w gd gp ds ps) := hI
  have hmk := make_decks ds.length hld
  have F0 : Hid (Blk ((w.alloc (.cells #[.int .i64 h.fl, .int .i64 h.gp, .int .i64 h.ln, .int .i64 h.rf, .int .i64 h.sp, .int .i64 h.pu, .int .i64 h.br, .int .i64 h.dr, .int .i64 h.lv, .int .i64 h.dO, .int .i64 h.ld, .int .i64 h.qu, .slice (some ⟨gd, 0, none⟩) ds.length dc, .int .i64 nx, .slice (some ⟨gp, 0, none⟩) ps.length pc, .int .i64 tk, .bool rc] 37)).alloc (.cells #[.int .i64 0, .int .i64 0, .int .i64 0, .int .i64 0, .int .i64 0, .int .i64 0, .int .i64 0, .int .i64 0, .int .i64 0, .int .i64 0, .int .i64 0, .int .i64 0, .slice none 0 0, .int .i64 0, .slice none 0 0, .int .i64 0, .bool false] 37)) w.heap.size (gvs h (.slice (some ⟨gd, 0, none⟩) ds.length dc) nx (.slice (some ⟨gp, 0, none⟩) ps.length pc) tk rc)) := (Blk.at_ w #[.int .i64 h.fl, .int .i64 h.gp, .int .i64 h.ln, .int .i64 h.rf, .int .i64 h.sp, .int .i64 h.pu, .int .i64 h.br, .int .i64 h.dr, .int .i64 h.lv, .int .i64 h.dO, .int .i64 h.ld, .int .i64 h.qu, .slice (some ⟨gd, 0, none⟩) ds.length dc, .int .i64 nx, .slice (some ⟨gp, 0, none⟩) ps.length pc, .int .i64 tk, .bool rc] _ _ rfl).alloc _
  have F1 : Hid (Blk ((w.alloc (.cells #[.int .i64 h.fl, .int .i64 h.gp, .int .i64 h.ln, .int .i64 h.rf, .int .i64 h.sp, .int .i64 h.pu, .int .i64 h.br, .int .i64 h.dr, .int .i64 h.lv, .int .i64 h.dO, .int .i64 h.ld, .int .i64 h.qu, .slice (some ⟨gd, 0, none⟩) ds.length dc, .int .i64 nx, .slice (some ⟨gp, 0, none⟩) ps.length pc, .int .i64 tk, .bool rc] 37)).alloc (.cells #[.int .i64 0, .int .i64 0, .int .i64 0, .int .i64 0, .int .i64 0, .int .i64 0, .int .i64 0, .int .i64 0, .int .i64 0, .int .i64 0, .int .i64 0, .int .i64 0, .slice none 0 0, .int .i64 0, .slice none 0 0, .int .i64 0, .bool false] 37)) (w.heap.size + 1) (gvs zeroH (.slice none 0 0) 0 (.slice none 0 0) 0 false)) := Blk.at_ _ #[.int .i64 0, .int .i64 0, .int .i64 0, .int .i64 0, .int .i64 0, .int .i64 0, .int .i64 0, .int .i64 0, .int .i64 0, .int .i64 0, .int .i64 0, .int .i64 0, .slice none 0 0, .int .i64 0, .slice none 0 0, .int .i64 0, .bool false] _ _ (by simp)
  have FB : Hid (Below w.heap.size w ((w.alloc (.cells #[.int .i64 h.fl, .int .i64 h.gp, .int .i64 h.ln, .int .i64 h.rf, .int .i64 h.sp, .int .i64 h.pu, .int .i64 h.br, .int .i64 h.dr, .int .i64 h.lv, .int .i64 h.dO, .int .i64 h.ld, .int .i64 h.qu, .slice (some ⟨gd, 0, none⟩) ds.length dc, .int .i64 nx, .slice (some ⟨gp, 0, none⟩) ps.length pc, .int .i64 tk, .bool rc] 37)).alloc (.cells #[.int .i64 0, .int .i64 0, .int .i64 0, .int .i64 0, .int .i64 0, .int .i64 0, .int .i64 0, .int .i64 0, .int .i64 0, .int .i64 0, .int .i64 0, .int .i64 0, .slice none 0 0, .int .i64 0, .slice none 0 0, .int .i64 0, .bool false] 37))) := ((Below.refl _ _).alloc (Nat.le_refl _) _).alloc (by simp) _
  have FI : Hid (GI ((w.alloc (.cells #[.int .i64 h.fl, .int .i64 h.gp, .int .i64 h.ln, .int .i64 h.rf, .int .i64 h.sp, .int .i64 h.pu, .int .i64 h.br, .int .i64 h.dr, .int .i64 h.lv, .int .i64 h.dO, .int .i64 h.ld, .int .i64 h.qu, .slice (some ⟨gd, 0, none⟩) ds.length dc, .int .i64 nx, .slice (some ⟨gp, 0, none⟩) ps.length pc, .int .i64 tk, .bool rc] 37)).alloc (.cells #[.int .i64 0, .int .i64 0, .int .i64 0, .int .i64 0, .int .i64 0, .int .i64 0, .int .i64 0, .int .i64 0, .int .i64 0, .int .i64 0, .int .i64 0, .int .i64 0, .slice none 0 0, .int .i64 0, .slice none 0 0, .int .i64 0, .bool false] 37)) gd gp ds ps) := (hI.alloc _).alloc _
  have LI : Hid (gd < w.heap.size ∧ gp < w.heap.size) := ⟨hI.ld, hI.lp⟩
  obtain ⟨W0, hW0⟩ : ∃ W0, W0 = ((w.alloc (.cells #[.int .i64 h.fl, .int .i64 h.gp, .int .i64 h.ln, .int .i64 h.rf, .int .i64 h.sp, .int .i64 h.pu, .int .i64 h.br, .int .i64 h.dr, .int .i64 h.lv, .int .i64 h.dO, .int .i64 h.ld, .int .i64 h.qu, .slice (some ⟨gd, 0, none⟩) ds.length dc, .int .i64 nx, .slice (some ⟨gp, 0, none⟩) ps.length pc, .int .i64 tk, .bool rc] 37)).alloc (.cells #[.int .i64 0, .int .i64 0, .int .i64 0, .int .i64 0, .int .i64 0, .int .i64 0, .int .i64 0, .int .i64 0, .int .i64 0, .int .i64 0, .int .i64 0, .int .i64 0, .slice none 0 0, .int .i64 0, .slice none 0 0, .int .i64 0, .bool false] 37)) := ⟨_, rfl⟩
  rw [← hW0] at F0 F1 FB FI
  have HW0 : Hid (W0 = ((w.alloc (.cells #[.int .i64 h.fl, .int .i64 h.gp, .int .i64 h.ln, .int .i64 h.rf, .int .i64 h.sp, .int .i64 h.pu, .int .i64 h.br, .int .i64 h.dr, .int .i64 h.lv, .int .i64 h.dO, .int .i64 h.ld, .int .i64 h.qu, .slice (some ⟨gd, 0, none⟩) ds.length dc, .int .i64 nx, .slice (some ⟨gp, 0, none⟩) ps.length pc, .int .i64 tk, .bool rc] 37)).alloc (.cells #[.int .i64 0, .int .i64 0, .int .i64 0, .int .i64 0, .int .i64 0, .int .i64 0, .int .i64 0, .int .i64 0, .int .i64 0, .int .i64 0, .int .i64 0, .int .i64 0, .slice none 0 0, .int .i64 0, .slice none 0 0, .int .i64 0, .bool false] 37))) := hW0
  clear hW0 hI
  go_enter Tryz.func26, Tryz.ntmps26
  go_upto_region 1 with fail
  rw [← HW0.out]
  clear HW0
  have x12 := F0.out.c 12 _ rfl
  go_upto_region 2 with fail
  clear hmk x12
  obtain ⟨g1, hg1⟩ : ∃ b, b = W0.heap.size := ⟨_, rfl⟩
  obtain ⟨W1, hW⟩ : ∃ W, W = W0.alloc (.cells (madeCells (cellsD zeroD).toArray (ds.length * 13)) 61) := ⟨_, rfl⟩
  have l1 := F1.out.lt
  have FD : Hid (OwD W1 (w.heap.size + 2) g1 ds.length ds.length (List.replicate ds.length zeroD)) := by rw [hW, hg1]; exact own_madeD ds.length hld W0 _ (by omega)
  rw [← hg1] at l1
  have F0 : Hid (Blk W1 w.heap.size (gvs h (.slice (some ⟨gd, 0, none⟩) ds.length dc) nx (.slice (some ⟨gp, 0, none⟩) ps.length pc) tk rc)) := by rw [hW]; exact F0.out.alloc _
  have F1 : Hid (Blk W1 (w.heap.size + 1) (gvs zeroH (.slice none 0 0) 0 (.slice none 0 0) 0 false)) := by rw [hW]; exact F1.out.alloc _
  have FB : Hid (Below w.heap.size w W1) := by rw [hW]; exact FB.out.alloc FB.out.size _
  have FI : Hid (GI W1 gd gp ds ps) := by rw [hW]; exact FI.out.alloc _
  rw [← hW, ← hg1]
  clear hW hg1
  have x12 := F0.out.c 12 _ rfl
  go_upto_region 3 with (refine wpList_copy_dk (w.heap.size + 2) g1 (List.replicate ds.length zeroD) ds FD.out gd 0 dc rfl rfl FI.out.d ?_; intro w1 ho hg; have NEr : Hid (∀ b, b < g1 → some b ≠ some g1) := (fun b hb e => by have e2 : b = g1 := Option.some.inj e; omega); have F0 : Hid (Blk w1 w.heap.size (gvs h (.slice (some ⟨gd, 0, none⟩) ds.length dc) nx (.slice (some ⟨gp, 0, none⟩) ps.length pc) tk rc)) := F0.out.grown hg (NEr.out _ (by omega)); have F1 : Hid (Blk w1 (w.heap.size + 1) (gvs zeroH (.slice none 0 0) 0 (.slice none 0 0) 0 false)) := F1.out.grown hg (NEr.out _ (by omega)); have FB : Hid (Below w.heap.size w w1) := below_grown FB.out hg (fun j hj => by have e2 : g1 = j := Option.some.inj hj; omega) FB.out.size; have FD : Hid (OwD w1 (w.heap.size + 2) g1 ds.length ds.length (ds)) := ho; clear ho hg NEr)
  clear x12
  have k12 := F0.out.c 12 _ rfl
  have f12 := F0.out.f 12 (Nat.le_of_ble_eq_true rfl)
  go_upto_region 4 with fail
  obtain ⟨W2, hw_⟩ : ∃ W, W = w1.setCell ⟨w.heap.size, 12, none⟩ (.slice (some ⟨g1, 0, none⟩) ds.length ds.length) := ⟨_, rfl⟩
  rw [← hw_]
  have F0 : Hid (Blk W2 w.heap.size (gvs h (.slice (some ⟨g1, 0, none⟩) ds.length ds.length) nx (.slice (some ⟨gp, 0, none⟩) ps.length pc) tk rc)) := by rw [hw_]; exact F0.out.set _ (Nat.le_of_ble_eq_true rfl)
  have F1 : Hid (Blk W2 (w.heap.size + 1) (gvs zeroH (.slice none 0 0) 0 (.slice none 0 0) 0 false)) := by rw [hw_]; exact F1.out.other (by omega)
  have FD : Hid (OwD W2 (w.heap.size + 2) g1 ds.length ds.length (ds)) := by rw [hw_]; exact FD.out.other (p := ⟨w.heap.size, 12, none⟩) (by have := FD.out.bl.1; show _ ≠ w.heap.size; omega) _
  have FB : Hid (Below w.heap.size w W2) := by rw [hw_]; exact FB.out.setCell (by show w.heap.size ≤ w.heap.size; omega) _
  have FI : Hid (GI W2 gd gp ds ps) := FI0.out.below FB.out LI.out.1 LI.out.2
  clear hw_
  clear k12 f12
  have x14 := F0.out.c 14 _ rfl
  have ld := FD.out.bl.2
  go_upto_region 5 with (go_at_call 50; refine (copied_any ps (some ⟨gp, 0, none⟩) pc ps.length hlp (Nat.le_refl _) _ FI.out.pin).mono ?_; rintro e w3 ⟨g2, rfl, ho, hb⟩; rw [Nat.sub_self, List.replicate_zero, List.append_nil] at ho; have FP : Hid (Ow w3 (w.heap.size + 2) g2 ps.length ps.length ps) := ho.base (by have := F1.out.lt; omega); have l12 : g1 < g2 := Nat.lt_of_lt_of_le ld ho.bl.1; have F0 : Hid (Blk w3 w.heap.size (gvs h (.slice (some ⟨g1, 0, none⟩) ds.length ds.length) nx (.slice (some ⟨gp, 0, none⟩) ps.length pc) tk rc)) := F0.out.below hb F0.out.lt; have F1 : Hid (Blk w3 (w.heap.size + 1) (gvs zeroH (.slice none 0 0) 0 (.slice none 0 0) 0 false)) := F1.out.below hb F1.out.lt; have FD : Hid (OwD w3 (w.heap.size + 2) g1 ds.length ds.length (ds)) := FD.out.below hb FD.out.bl.2; have FB : Hid (Below w.heap.size w w3) := FB.out.trans (hb.mono FB.out.size); clear hb; clear ho; have k14 := F0.out.c 14 _ rfl; have f14 := F0.out.f 14 (Nat.le_of_ble_eq_true rfl))
  obtain ⟨W4, hw_⟩ : ∃ W, W = w3.setCell ⟨w.heap.size, 14, none⟩ (.slice (some ⟨g2, 0, none⟩) ps.length ps.length) := ⟨_, rfl⟩
  rw [← hw_]
  have F0 : Hid (Blk W4 w.heap.size (gvs h (.slice (some ⟨g1, 0, none⟩) ds.length ds.length) nx (.slice (some ⟨g2, 0, none⟩) ps.length ps.length) tk rc)) := by rw [hw_]; exact F0.out.set _ (Nat.le_of_ble_eq_true rfl)
  have F1 : Hid (Blk W4 (w.heap.size + 1) (gvs zeroH (.slice none 0 0) 0 (.slice none 0 0) 0 false)) := by rw [hw_]; exact F1.out.other (by omega)
  have FD : Hid (OwD W4 (w.heap.size + 2) g1 ds.length ds.length (ds)) := by rw [hw_]; exact FD.out.other (p := ⟨w.heap.size, 14, none⟩) (by have := FD.out.bl.1; show _ ≠ w.heap.size; omega) _
  have FP : Hid (Ow W4 (w.heap.size + 2) g2 ps.length ps.length ps) := by rw [hw_]; exact FP.out.other (p := ⟨w.heap.size, 14, none⟩) (by have := FP.out.bl.1; show _ ≠ w.heap.size; omega) _
  have FB : Hid (Below w.heap.size w W4) := by rw [hw_]; exact FB.out.setCell (by show w.heap.size ≤ w.heap.size; omega) _
  have FI : Hid (GI W4 gd gp ds ps) := FI0.out.below FB.out LI.out.1 LI.out.2
  clear hw_
  clear k14 f14 x14
  go_wp2_with (first | (refine load_blk 37 _ Tryz.underlying37 (by kernel_rfl) F0.out rfl rfl rfl ?_) | (refine store_blk (gvs h (.slice (some ⟨g1, 0, none⟩) ds.length ds.length) nx (.slice (some ⟨g2, 0, none⟩) ps.length ps.length) tk rc) 37 _ _ (by kernel_rfl) (by kernel_rfl) (by kernel_rfl) F1.out rfl rfl rfl rfl ?_))
  exact bodyPost_ret (v := .agg #[.int .i64 h.fl, .int .i64 h.gp, .int .i64 h.ln, .int .i64 h.rf, .int .i64 h.sp, .int .i64 h.pu, .int .i64 h.br, .int .i64 h.dr, .int .i64 h.lv, .int .i64 h.dO, .int .i64 h.ld, .int .i64 h.qu, .slice (some ⟨g1, 0, none⟩) ds.length ds.length, .int .i64 nx, .slice (some ⟨g2, 0, none⟩) ps.length ps.length, .int .i64 tk, .bool rc]) ((F1.out.row (gvs h (.slice (some ⟨g1, 0, none⟩) ds.length ds.length) nx (.slice (some ⟨g2, 0, none⟩) ps.length ps.length) tk rc)).res _ Tryz.results26 Tryz.underlying37 (by kernel_rfl) rfl) rfl ⟨g1, _, g2, _, rfl, (FD.out.row (by have := FD.out.bl.1; omega) _).base (by omega), (FP.out.row (by have := FP.out.bl.1; omega) _).base (by omega), by omega, below_row FB.out (by omega) _⟩
end Go.Proofs.YtfmkanbhnpmpaaaGreat

/-
  The model's ledger: people whose state is turned.
(A pointer into a block tells the ledger.)
-/
namespace Go.Proofs.YtfmkanbhnpmpaaaGreat
open Go.RowKit Pl
set_option linter.unusedSimpArgs false
set_option linter.unusedVariables false

set_option maxRecDepth 20000 in
set_option maxHeartbeats 16000000 in
theorem l7Drop_anyO (lb lo : Nat) (nx : Int) (B g n cap : Nat) (l : List Pe)  (hl : n ≤ 1048576) (hne : lb ≠ g) (w : World) (hL : LAo w lb lo nx (some ⟨g, 0, none⟩) n cap) (h : Ow w B g n cap l) :
    Calls Tryz.prog 21 #[.pointer (some ⟨lb, lo, none⟩)] w fun e w' => e = .returned (.tuple #[]) ∧ Ow w' B g n cap (l.map (dropP)) ∧ w.grownBy w' (some g) := by
  have hn := h.1
  have HL : Hid (LAo w lb lo nx (some ⟨g, 0, none⟩) n cap) := hL
  have HO : Hid (Ow w B g n cap l) := h
  clear hL h
  go_enter Tryz.func21, Tryz.ntmps21
  go_wp2_with fail
  go_loopw [2] (fun ii wr => ∃ i : Nat, ii = .int .i64 i ∧ i ≤ n ∧ Ow wr B g n cap ((l.take i).map (dropP) ++ l.drop i) ∧ w.grownBy wr (some g)) (fun ii _ => n - (intOf ii).toNat)
  case atStart => exact ⟨0, rfl, by omega, by simpa using HO.out, World.grownBy.refl w _⟩
  case round =>
    obtain ⟨i, rfl, hi, ho, hg⟩ := hrel
    have FO : Hid (Ow wr B g n cap ((l.take i).map (dropP) ++ l.drop i)) := ho
    have FG : Hid (w.grownBy wr (some g)) := hg
    have LA : Hid (LAo wr lb lo nx (some ⟨g, 0, none⟩) n cap) := HL.out.grown hg (fun e => hne (Option.some.inj e))
    obtain ⟨g0, g1⟩ := LA.out
    have nel : g ≠ lb := fun e => hne e.symm
    clear ho hg HO
    by_cases hlt : i < n
    · obtain ⟨p, hp⟩ : ∃ p, l[i]? = some p := ⟨_, List.getElem?_eq_getElem (by omega)⟩
      have hz : ((l.take i).map (dropP) ++ l.drop i)[i]? = some p := turn_at hp
      have lg := FO.out.bl.2
      have ng := Nat.ne_of_gt lg
      obtain ⟨d0, d1, d2, d3, d4, d5, d6⟩ := FO.out.p7 hz
      have fz5 := FO.out.fz (i * 7 + 5)
      cases k0 : (p.st == 0)
      · have fp : (dropP) p = p := by
          unfold dropP
          exact if_neg (fun q => by simp [q] at k0)
        have HE : Hid ((l.take i).map (dropP) ++ l.drop i = (l.take (i + 1)).map (dropP) ++ l.drop (i + 1)) := turn_keep hp fp
        clear fp hp hz
        go_wp2_with fail
        go_roundw
        case rel => exact ⟨i + 1, by simp, by omega, HE.out ▸ FO.out, FG.out⟩
        case measure => simp [intOf]; omega
      · have fp : (dropP) p = ⟨p.id, p.fr, p.tw, p.sh, p.ca, 4, p.pl⟩ := by
          unfold dropP
          exact if_pos (by simpa using k0)
        have HE : Hid (((l.take i).map (dropP) ++ l.drop i).set i ⟨p.id, p.fr, p.tw, p.sh, p.ca, 4, p.pl⟩ = (l.take (i + 1)).map (dropP) ++ l.drop (i + 1)) := fp ▸ turn_set hp
        clear fp hp
        have HS : Hid (Ow ((wr).setCell ⟨g, i * 7 + 5, none⟩ (.int .i64 4)) B g n cap ((l.take (i + 1)).map (dropP) ++ l.drop (i + 1))) := by
          have s := (FO.out.set (k := 5) (u := .int .i64 4) (q := ⟨p.id, p.fr, p.tw, p.sh, p.ca, 4, p.pl⟩) hz (by omega) rfl)
          try simp only [List.set_set] at s
          rw [HE.out] at s
          exact s
        clear hz HE
        go_wp2_with fail
        go_roundw
        case rel => exact ⟨i + 1, by simp, by omega, HS.out, grown_trans (FG.out) (grown_set1 _ g _ _)⟩
        case measure => simp [intOf]; omega
    · have ei : i = n := by omega
      subst ei
      have HM : Hid (Ow wr B g i cap (l.map (dropP))) := by
        have q := FO.out
        rw [List.drop_eq_nil_of_le (by omega), List.append_nil, List.take_of_length_le (by omega)] at q
        exact q
      clear FO
      go_wp2_with fail
      go_end0
      exact ⟨rfl, HM.out, FG.out⟩
end Go.Proofs.YtfmkanbhnpmpaaaGreat

/-
  A group that is quiet, in plain.
-/
namespace Go.Proofs.YtfmkanbhnpmpaaaGreat
open Go.RowKit Pl
set_option linter.unusedSimpArgs false
set_option linter.unusedVariables false

def doorB (d : Dk) : Bool := d.sh.lo.door == 0 && d.sh.up.door == 0
def used (ps : List Pe) : Int := (cnt 0 (-1) 0 ps : Int) + (cnt 1 (-1) 0 ps : Int)
def quietB (ds : List Dk) (ps : List Pe) : Bool := ds.all doorB && decide (used ps = 0)
def Gr.quiet (g : Gr) : Bool := decide (Gr.fault g = 0) && quietB g.ds g.led.ps
def Gr.bound (g : Gr) : Int × Int := if Gr.fault g = 0 then (0, (2 * used g.led.ps + 2) * g.h.serve) else (Gr.fault g, 0)
theorem used_bd (ps : List Pe) : 0 ≤ used ps ∧ used ps ≤ 2 * ps.length := by
  have a := List.countP_le_length (p := isIn 0 (-1) 0) (l := ps)
  have b := List.countP_le_length (p := isIn 1 (-1) 0) (l := ps)
  unfold used cnt
  omega
theorem quiet_door {ds : List Dk} {ps : List Pe} {i : Nat} {d : Dk} (hd : ds[i]? = some d) (h : doorB d = false) : quietB ds ps = false := by
  unfold quietB
  have : ds.all doorB = false := by
    rw [List.all_eq_false]
    exact ⟨d, List.mem_of_getElem? hd, by simp [h]⟩
  rw [this]
  rfl
theorem quiet_all {ds : List Dk} {ps : List Pe} (h : ∀ (j : Nat) d, j < ds.length → ds[j]? = some d → doorB d = true) : quietB ds ps = decide (used ps = 0) := by
  unfold quietB
  have : ds.all doorB = true := by
    rw [List.all_eq_true]
    intro d hd
    obtain ⟨j, hj⟩ := List.getElem?_of_mem hd
    exact h j d (List.getElem?_eq_some_iff.1 hj).1 hj
  rw [this]
  rfl
theorem Gr.fault_parts {g : Gr} (e : Gr.fault g = 0) : g.h.fault = 0 ∧ (1 ≤ (g.ds.length : Int) ∧ (g.ds.length : Int) ≤ 3) ∧ Hs.decks g.h g.ds = 0 ∧ Hs.led g.h g.led = 0 ∧ awayB g.ds.length g.led.ps = false ∧ 0 ≤ g.tk ∧ g.tk ≤ 1000000000000000 := by
  unfold Gr.fault at e
  split at e
  case isFalse c => exact absurd e c
  case isTrue c =>
    unfold Gr.faultC at e
    split at e
    case isFalse => cases e
    case isTrue c1 =>
      split at e
      case isFalse z => exact absurd e z
      case isTrue c2 =>
        split at e
        case isFalse z => exact absurd e z
        case isTrue c3 =>
          split at e
          case isTrue => cases e
          case isFalse c4 =>
            split at e
            case isFalse => cases e
            case isTrue c5 => exact ⟨c, inB_iff.1 c1, c2, c3, by simpa using c4, (inB_iff.1 c5).1, (inB_iff.1 c5).2⟩
end Go.Proofs.YtfmkanbhnpmpaaaGreat

/-
  The model's groups that are recalled or begin anew.
-/
namespace Go.Proofs.YtfmkanbhnpmpaaaGreat
open Go.RowKit Pl
set_option linter.unusedSimpArgs false
set_option linter.unusedVariables false

/-- A car's phase at a restart. -/
def agn (c : Cs) : Int := if c.door = 0 then 0 else 2
def heldD (p : Dk) : Dk := ⟨p.sh, p.sp, agn p.sh.lo, agn p.sh.up, true⟩
theorem held_at {l : List Dk} {i : Nat} {p : Dk} (h : l[i]? = some p) : (l.take i |>.map heldD) ++ l.drop i = (l.take i |>.map heldD) ++ p :: l.drop (i + 1) := by
  have hi : i < l.length := (List.getElem?_eq_some_iff.1 h).1
  have e : l[i] = p := (List.getElem?_eq_some_iff.1 h).2
  rw [List.drop_eq_getElem_cons hi, e]
theorem held_get {l : List Dk} {i : Nat} {p : Dk} (h : l[i]? = some p) : ((l.take i |>.map heldD) ++ l.drop i)[i]? = some p := by
  have hi : i < l.length := (List.getElem?_eq_some_iff.1 h).1
  have hl : (l.take i |>.map heldD).length = i := by rw [List.length_map, List.length_take]; omega
  rw [held_at h, List.getElem?_append_right (by omega), hl, Nat.sub_self]
  rfl
theorem held_set {l : List Dk} {i : Nat} {p : Dk} (h : l[i]? = some p) : ((l.take i |>.map heldD) ++ l.drop i).set i (heldD p) = (l.take (i + 1) |>.map heldD) ++ l.drop (i + 1) := by
  have hi : i < l.length := (List.getElem?_eq_some_iff.1 h).1
  have hl : (l.take i |>.map heldD).length = i := by rw [List.length_map, List.length_take]; omega
  rw [held_at h, List.set_append_right _ _ (by omega), hl, Nat.sub_self, List.set_cons_zero, List.take_add_one, h, List.map_append, List.append_assoc]
  rfl
theorem held_all (l : List Dk) : (l.take l.length |>.map heldD) ++ l.drop l.length = l.map heldD := by
  rw [List.take_length, List.drop_length, List.append_nil]
set_option maxRecDepth 20000 in
set_option maxHeartbeats 8000000 in
theorem l8Again_any (c : Cs) (w : World) : Calls Tryz.prog 20 #[.agg #[.int .i64 c.pos, .int .i64 c.vel, .int .i64 c.door]] w fun e w' => e = .returned (.int .i64 (agn c)) ∧ Below w.heap.size w w' := by
  have HB : Hid (Below w.heap.size w (w.alloc (.cells #[.int .i64 c.pos, .int .i64 c.vel, .int .i64 c.door] 53))) := (Below.refl _ _).alloc (Nat.le_refl _) _
  by_cases k : c.door = 0
  · have hn : (c.door != 0) = false := by simpa using k
    have e : agn c = 0 := if_pos k
    rw [e]
    clear k e
    go_enter Tryz.func20, Tryz.ntmps20
    go_wp2_with fail
    go_ret
    exact ⟨rfl, HB.out⟩
  · have hn : (c.door != 0) = true := by simpa using k
    have e : agn c = 2 := if_neg k
    rw [e]
    clear k e
    go_enter Tryz.func20, Tryz.ntmps20
    go_wp2_with fail
    go_ret
    exact ⟨rfl, HB.out⟩
set_option maxRecDepth 20000 in
set_option maxHeartbeats 16000000 in
theorem specRecallGroup_no (h : Hs) (ds : List Dk) (gd dc : Nat) (nx : Int) (ps : List Pe) (gp pc : Nat) (tk : Int) (rc : Bool) (x : Bool) (hf : Gr.fault ⟨h, ds, ⟨nx, ps⟩, tk, rc⟩ ≠ 0) (hld : ds.length ≤ 1048576) (hlp : ps.length ≤ 1048576) (w : World) (hI : GI w gd gp ds ps) : Calls Tryz.prog 14 #[.agg #[.int .i64 h.fl, .int .i64 h.gp, .int .i64 h.ln, .int .i64 h.rf, .int .i64 h.sp, .int .i64 h.pu, .int .i64 h.br, .int .i64 h.dr, .int .i64 h.lv, .int .i64 h.dO, .int .i64 h.ld, .int .i64 h.qu, .slice (some ⟨gd, 0, none⟩) ds.length dc, .int .i64 nx, .slice (some ⟨gp, 0, none⟩) ps.length pc, .int .i64 tk, .bool rc], .bool x] w (isGrp w (Gr.fault ⟨h, ds, ⟨nx, ps⟩, tk, rc⟩) 0 zeroH [] 0 [] 0 false) := by
  have hn : (Gr.fault ⟨h, ds, ⟨nx, ps⟩, tk, rc⟩ != 0) = true := by simpa using hf
  clear hf
  have F0 : Hid (Blk ((w.alloc (.cells #[.int .i64 h.fl, .int .i64 h.gp, .int .i64 h.ln, .int .i64 h.rf, .int .i64 h.sp, .int .i64 h.pu, .int .i64 h.br, .int .i64 h.dr, .int .i64 h.lv, .int .i64 h.dO, .int .i64 h.ld, .int .i64 h.qu, .slice (some ⟨gd, 0, none⟩) ds.length dc, .int .i64 nx, .slice (some ⟨gp, 0, none⟩) ps.length pc, .int .i64 tk, .bool rc] 37)).alloc (.cells #[.int .i64 0, .int .i64 0, .int .i64 0, .int .i64 0, .int .i64 0, .int .i64 0, .int .i64 0, .int .i64 0, .int .i64 0, .int .i64 0, .int .i64 0, .int .i64 0, .int .i64 0, .int .i64 0, .slice none 0 0, .int .i64 0, .slice none 0 0, .int .i64 0, .bool false] 39)) w.heap.size (gvs h (.slice (some ⟨gd, 0, none⟩) ds.length dc) nx (.slice (some ⟨gp, 0, none⟩) ps.length pc) tk rc)) := (Blk.at_ w #[.int .i64 h.fl, .int .i64 h.gp, .int .i64 h.ln, .int .i64 h.rf, .int .i64 h.sp, .int .i64 h.pu, .int .i64 h.br, .int .i64 h.dr, .int .i64 h.lv, .int .i64 h.dO, .int .i64 h.ld, .int .i64 h.qu, .slice (some ⟨gd, 0, none⟩) ds.length dc, .int .i64 nx, .slice (some ⟨gp, 0, none⟩) ps.length pc, .int .i64 tk, .bool rc] _ _ rfl).alloc _
  have F1 : Hid (Blk ((w.alloc (.cells #[.int .i64 h.fl, .int .i64 h.gp, .int .i64 h.ln, .int .i64 h.rf, .int .i64 h.sp, .int .i64 h.pu, .int .i64 h.br, .int .i64 h.dr, .int .i64 h.lv, .int .i64 h.dO, .int .i64 h.ld, .int .i64 h.qu, .slice (some ⟨gd, 0, none⟩) ds.length dc, .int .i64 nx, .slice (some ⟨gp, 0, none⟩) ps.length pc, .int .i64 tk, .bool rc] 37)).alloc (.cells #[.int .i64 0, .int .i64 0, .int .i64 0, .int .i64 0, .int .i64 0, .int .i64 0, .int .i64 0, .int .i64 0, .int .i64 0, .int .i64 0, .int .i64 0, .int .i64 0, .int .i64 0, .int .i64 0, .slice none 0 0, .int .i64 0, .slice none 0 0, .int .i64 0, .bool false] 39)) (w.heap.size + 1) ([.int .i64 0, .int .i64 0, .int .i64 0, .int .i64 0, .int .i64 0, .int .i64 0, .int .i64 0, .int .i64 0, .int .i64 0, .int .i64 0, .int .i64 0, .int .i64 0, .int .i64 0, .int .i64 0, .slice none 0 0, .int .i64 0, .slice none 0 0, .int .i64 0, .bool false])) := Blk.at_ _ #[.int .i64 0, .int .i64 0, .int .i64 0, .int .i64 0, .int .i64 0, .int .i64 0, .int .i64 0, .int .i64 0, .int .i64 0, .int .i64 0, .int .i64 0, .int .i64 0, .int .i64 0, .int .i64 0, .slice none 0 0, .int .i64 0, .slice none 0 0, .int .i64 0, .bool false] _ _ (by simp)
  have FB : Hid (Below w.heap.size w ((w.alloc (.cells #[.int .i64 h.fl, .int .i64 h.gp, .int .i64 h.ln, .int .i64 h.rf, .int .i64 h.sp, .int .i64 h.pu, .int .i64 h.br, .int .i64 h.dr, .int .i64 h.lv, .int .i64 h.dO, .int .i64 h.ld, .int .i64 h.qu, .slice (some ⟨gd, 0, none⟩) ds.length dc, .int .i64 nx, .slice (some ⟨gp, 0, none⟩) ps.length pc, .int .i64 tk, .bool rc] 37)).alloc (.cells #[.int .i64 0, .int .i64 0, .int .i64 0, .int .i64 0, .int .i64 0, .int .i64 0, .int .i64 0, .int .i64 0, .int .i64 0, .int .i64 0, .int .i64 0, .int .i64 0, .int .i64 0, .int .i64 0, .slice none 0 0, .int .i64 0, .slice none 0 0, .int .i64 0, .bool false] 39))) := ((Below.refl _ _).alloc (Nat.le_refl _) _).alloc (by simp) _
  have FI : Hid (GI ((w.alloc (.cells #[.int .i64 h.fl, .int .i64 h.gp, .int .i64 h.ln, .int .i64 h.rf, .int .i64 h.sp, .int .i64 h.pu, .int .i64 h.br, .int .i64 h.dr, .int .i64 h.lv, .int .i64 h.dO, .int .i64 h.ld, .int .i64 h.qu, .slice (some ⟨gd, 0, none⟩) ds.length dc, .int .i64 nx, .slice (some ⟨gp, 0, none⟩) ps.length pc, .int .i64 tk, .bool rc] 37)).alloc (.cells #[.int .i64 0, .int .i64 0, .int .i64 0, .int .i64 0, .int .i64 0, .int .i64 0, .int .i64 0, .int .i64 0, .int .i64 0, .int .i64 0, .int .i64 0, .int .i64 0, .int .i64 0, .int .i64 0, .slice none 0 0, .int .i64 0, .slice none 0 0, .int .i64 0, .bool false] 39)) gd gp ds ps) := (hI.alloc _).alloc _
  have LI : Hid (gd < w.heap.size ∧ gp < w.heap.size) := ⟨hI.ld, hI.lp⟩
  obtain ⟨W0, hW0⟩ : ∃ W0, W0 = ((w.alloc (.cells #[.int .i64 h.fl, .int .i64 h.gp, .int .i64 h.ln, .int .i64 h.rf, .int .i64 h.sp, .int .i64 h.pu, .int .i64 h.br, .int .i64 h.dr, .int .i64 h.lv, .int .i64 h.dO, .int .i64 h.ld, .int .i64 h.qu, .slice (some ⟨gd, 0, none⟩) ds.length dc, .int .i64 nx, .slice (some ⟨gp, 0, none⟩) ps.length pc, .int .i64 tk, .bool rc] 37)).alloc (.cells #[.int .i64 0, .int .i64 0, .int .i64 0, .int .i64 0, .int .i64 0, .int .i64 0, .int .i64 0, .int .i64 0, .int .i64 0, .int .i64 0, .int .i64 0, .int .i64 0, .int .i64 0, .int .i64 0, .slice none 0 0, .int .i64 0, .slice none 0 0, .int .i64 0, .bool false] 39)) := ⟨_, rfl⟩
  rw [← hW0] at F0 F1 FB FI
  have HW0 : Hid (W0 = ((w.alloc (.cells #[.int .i64 h.fl, .int .i64 h.gp, .int .i64 h.ln, .int .i64 h.rf, .int .i64 h.sp, .int .i64 h.pu, .int .i64 h.br, .int .i64 h.dr, .int .i64 h.lv, .int .i64 h.dO, .int .i64 h.ld, .int .i64 h.qu, .slice (some ⟨gd, 0, none⟩) ds.length dc, .int .i64 nx, .slice (some ⟨gp, 0, none⟩) ps.length pc, .int .i64 tk, .bool rc] 37)).alloc (.cells #[.int .i64 0, .int .i64 0, .int .i64 0, .int .i64 0, .int .i64 0, .int .i64 0, .int .i64 0, .int .i64 0, .int .i64 0, .int .i64 0, .int .i64 0, .int .i64 0, .int .i64 0, .int .i64 0, .slice none 0 0, .int .i64 0, .slice none 0 0, .int .i64 0, .bool false] 39))) := hW0
  clear hW0 hI
  go_enter Tryz.func14, Tryz.ntmps14
  go_upto_region 1 with fail
  rw [← HW0.out]
  go_wp2_with (first | (refine load_blk 37 _ Tryz.underlying37 (by kernel_rfl) F0.out rfl rfl rfl ?_) | (go_at_call 18; refine (specGroupFault_any h ds (some ⟨gd, 0, none⟩) dc nx ps (some ⟨gp, 0, none⟩) pc tk rc hld hlp _ FI.out.din FI.out.pin).mono ?_; rintro e w1 ⟨rfl, hb⟩; have F0 : Hid (Blk w1 w.heap.size (gvs h (.slice (some ⟨gd, 0, none⟩) ds.length dc) nx (.slice (some ⟨gp, 0, none⟩) ps.length pc) tk rc)) := F0.out.below hb F0.out.lt; have F1 : Hid (Blk w1 (w.heap.size + 1) ([.int .i64 0, .int .i64 0, .int .i64 0, .int .i64 0, .int .i64 0, .int .i64 0, .int .i64 0, .int .i64 0, .int .i64 0, .int .i64 0, .int .i64 0, .int .i64 0, .int .i64 0, .int .i64 0, .slice none 0 0, .int .i64 0, .slice none 0 0, .int .i64 0, .bool false])) := F1.out.below hb F1.out.lt; have FI : Hid (GI w1 gd gp ds ps) := FI.out.below hb FI.out.ld FI.out.lp; have FB : Hid (Below w.heap.size w w1) := FB.out.trans (hb.mono FB.out.size); clear hb) | (refine store_blk ([.int .i64 (Gr.fault ⟨h, ds, ⟨nx, ps⟩, tk, rc⟩), .int .i64 0, .int .i64 0, .int .i64 0, .int .i64 0, .int .i64 0, .int .i64 0, .int .i64 0, .int .i64 0, .int .i64 0, .int .i64 0, .int .i64 0, .int .i64 0, .int .i64 0, .slice none 0 0, .int .i64 0, .slice none 0 0, .int .i64 0, .bool false]) 39 _ _ (by kernel_rfl) (by kernel_rfl) (by kernel_rfl) F1.out rfl rfl rfl rfl ?_))
  exact bodyPost_ret (v := .agg #[.int .i64 (Gr.fault ⟨h, ds, ⟨nx, ps⟩, tk, rc⟩), .int .i64 0, .int .i64 0, .int .i64 0, .int .i64 0, .int .i64 0, .int .i64 0, .int .i64 0, .int .i64 0, .int .i64 0, .int .i64 0, .int .i64 0, .int .i64 0, .int .i64 0, .slice none 0 0, .int .i64 0, .slice none 0 0, .int .i64 0, .bool false]) ((F1.out.row [.int .i64 (Gr.fault ⟨h, ds, ⟨nx, ps⟩, tk, rc⟩), .int .i64 0, .int .i64 0, .int .i64 0, .int .i64 0, .int .i64 0, .int .i64 0, .int .i64 0, .int .i64 0, .int .i64 0, .int .i64 0, .int .i64 0, .int .i64 0, .int .i64 0, .slice none 0 0, .int .i64 0, .slice none 0 0, .int .i64 0, .bool false]).res _ Tryz.results14 Tryz.underlying39 (by kernel_rfl) rfl) rfl (isGrp.no (below_row FB.out (by omega) _))
set_option maxRecDepth 20000 in
set_option maxHeartbeats 16000000 in
theorem specRestartGroup_no (h : Hs) (ds : List Dk) (gd dc : Nat) (nx : Int) (ps : List Pe) (gp pc : Nat) (tk : Int) (rc : Bool) (x : Bool) (hf : Gr.fault ⟨h, ds, ⟨nx, ps⟩, tk, rc⟩ ≠ 0) (hld : ds.length ≤ 1048576) (hlp : ps.length ≤ 1048576) (w : World) (hI : GI w gd gp ds ps) : Calls Tryz.prog 6 #[.agg #[.int .i64 h.fl, .int .i64 h.gp, .int .i64 h.ln, .int .i64 h.rf, .int .i64 h.sp, .int .i64 h.pu, .int .i64 h.br, .int .i64 h.dr, .int .i64 h.lv, .int .i64 h.dO, .int .i64 h.ld, .int .i64 h.qu, .slice (some ⟨gd, 0, none⟩) ds.length dc, .int .i64 nx, .slice (some ⟨gp, 0, none⟩) ps.length pc, .int .i64 tk, .bool rc], .bool x] w (isGrp w (Gr.fault ⟨h, ds, ⟨nx, ps⟩, tk, rc⟩) 0 zeroH [] 0 [] 0 false) := by
  have hn : (Gr.fault ⟨h, ds, ⟨nx, ps⟩, tk, rc⟩ != 0) = true := by simpa using hf
  clear hf
  have F0 : Hid (Blk ((w.alloc (.cells #[.int .i64 h.fl, .int .i64 h.gp, .int .i64 h.ln, .int .i64 h.rf, .int .i64 h.sp, .int .i64 h.pu, .int .i64 h.br, .int .i64 h.dr, .int .i64 h.lv, .int .i64 h.dO, .int .i64 h.ld, .int .i64 h.qu, .slice (some ⟨gd, 0, none⟩) ds.length dc, .int .i64 nx, .slice (some ⟨gp, 0, none⟩) ps.length pc, .int .i64 tk, .bool rc] 37)).alloc (.cells #[.int .i64 0, .int .i64 0, .int .i64 0, .int .i64 0, .int .i64 0, .int .i64 0, .int .i64 0, .int .i64 0, .int .i64 0, .int .i64 0, .int .i64 0, .int .i64 0, .int .i64 0, .int .i64 0, .slice none 0 0, .int .i64 0, .slice none 0 0, .int .i64 0, .bool false] 39)) w.heap.size (gvs h (.slice (some ⟨gd, 0, none⟩) ds.length dc) nx (.slice (some ⟨gp, 0, none⟩) ps.length pc) tk rc)) := (Blk.at_ w #[.int .i64 h.fl, .int .i64 h.gp, .int .i64 h.ln, .int .i64 h.rf, .int .i64 h.sp, .int .i64 h.pu, .int .i64 h.br, .int .i64 h.dr, .int .i64 h.lv, .int .i64 h.dO, .int .i64 h.ld, .int .i64 h.qu, .slice (some ⟨gd, 0, none⟩) ds.length dc, .int .i64 nx, .slice (some ⟨gp, 0, none⟩) ps.length pc, .int .i64 tk, .bool rc] _ _ rfl).alloc _
  have F1 : Hid (Blk ((w.alloc (.cells #[.int .i64 h.fl, .int .i64 h.gp, .int .i64 h.ln, .int .i64 h.rf, .int .i64 h.sp, .int .i64 h.pu, .int .i64 h.br, .int .i64 h.dr, .int .i64 h.lv, .int .i64 h.dO, .int .i64 h.ld, .int .i64 h.qu, .slice (some ⟨gd, 0, none⟩) ds.length dc, .int .i64 nx, .slice (some ⟨gp, 0, none⟩) ps.length pc, .int .i64 tk, .bool rc] 37)).alloc (.cells #[.int .i64 0, .int .i64 0, .int .i64 0, .int .i64 0, .int .i64 0, .int .i64 0, .int .i64 0, .int .i64 0, .int .i64 0, .int .i64 0, .int .i64 0, .int .i64 0, .int .i64 0, .int .i64 0, .slice none 0 0, .int .i64 0, .slice none 0 0, .int .i64 0, .bool false] 39)) (w.heap.size + 1) ([.int .i64 0, .int .i64 0, .int .i64 0, .int .i64 0, .int .i64 0, .int .i64 0, .int .i64 0, .int .i64 0, .int .i64 0, .int .i64 0, .int .i64 0, .int .i64 0, .int .i64 0, .int .i64 0, .slice none 0 0, .int .i64 0, .slice none 0 0, .int .i64 0, .bool false])) := Blk.at_ _ #[.int .i64 0, .int .i64 0, .int .i64 0, .int .i64 0, .int .i64 0, .int .i64 0, .int .i64 0, .int .i64 0, .int .i64 0, .int .i64 0, .int .i64 0, .int .i64 0, .int .i64 0, .int .i64 0, .slice none 0 0, .int .i64 0, .slice none 0 0, .int .i64 0, .bool false] _ _ (by simp)
  have FB : Hid (Below w.heap.size w ((w.alloc (.cells #[.int .i64 h.fl, .int .i64 h.gp, .int .i64 h.ln, .int .i64 h.rf, .int .i64 h.sp, .int .i64 h.pu, .int .i64 h.br, .int .i64 h.dr, .int .i64 h.lv, .int .i64 h.dO, .int .i64 h.ld, .int .i64 h.qu, .slice (some ⟨gd, 0, none⟩) ds.length dc, .int .i64 nx, .slice (some ⟨gp, 0, none⟩) ps.length pc, .int .i64 tk, .bool rc] 37)).alloc (.cells #[.int .i64 0, .int .i64 0, .int .i64 0, .int .i64 0, .int .i64 0, .int .i64 0, .int .i64 0, .int .i64 0, .int .i64 0, .int .i64 0, .int .i64 0, .int .i64 0, .int .i64 0, .int .i64 0, .slice none 0 0, .int .i64 0, .slice none 0 0, .int .i64 0, .bool false] 39))) := ((Below.refl _ _).alloc (Nat.le_refl _) _).alloc (by simp) _
  have FI : Hid (GI ((w.alloc (.cells #[.int .i64 h.fl, .int .i64 h.gp, .int .i64 h.ln, .int .i64 h.rf, .int .i64 h.sp, .int .i64 h.pu, .int .i64 h.br, .int .i64 h.dr, .int .i64 h.lv, .int .i64 h.dO, .int .i64 h.ld, .int .i64 h.qu, .slice (some ⟨gd, 0, none⟩) ds.length dc, .int .i64 nx, .slice (some ⟨gp, 0, none⟩) ps.length pc, .int .i64 tk, .bool rc] 37)).alloc (.cells #[.int .i64 0, .int .i64 0, .int .i64 0, .int .i64 0, .int .i64 0, .int .i64 0, .int .i64 0, .int .i64 0, .int .i64 0, .int .i64 0, .int .i64 0, .int .i64 0, .int .i64 0, .int .i64 0, .slice none 0 0, .int .i64 0, .slice none 0 0, .int .i64 0, .bool false] 39)) gd gp ds ps) := (hI.alloc _).alloc _
  have LI : Hid (gd < w.heap.size ∧ gp < w.heap.size) := ⟨hI.ld, hI.lp⟩
  obtain ⟨W0, hW0⟩ : ∃ W0, W0 = ((w.alloc (.cells #[.int .i64 h.fl, .int .i64 h.gp, .int .i64 h.ln, .int .i64 h.rf, .int .i64 h.sp, .int .i64 h.pu, .int .i64 h.br, .int .i64 h.dr, .int .i64 h.lv, .int .i64 h.dO, .int .i64 h.ld, .int .i64 h.qu, .slice (some ⟨gd, 0, none⟩) ds.length dc, .int .i64 nx, .slice (some ⟨gp, 0, none⟩) ps.length pc, .int .i64 tk, .bool rc] 37)).alloc (.cells #[.int .i64 0, .int .i64 0, .int .i64 0, .int .i64 0, .int .i64 0, .int .i64 0, .int .i64 0, .int .i64 0, .int .i64 0, .int .i64 0, .int .i64 0, .int .i64 0, .int .i64 0, .int .i64 0, .slice none 0 0, .int .i64 0, .slice none 0 0, .int .i64 0, .bool false] 39)) := ⟨_, rfl⟩
  rw [← hW0] at F0 F1 FB FI
  have HW0 : Hid (W0 = ((w.alloc (.cells #[.int .i64 h.fl, .int .i64 h.gp, .int .i64 h.ln, .int .i64 h.rf, .int .i64 h.sp, .int .i64 h.pu, .int .i64 h.br, .int .i64 h.dr, .int .i64 h.lv, .int .i64 h.dO, .int .i64 h.ld, .int .i64 h.qu, .slice (some ⟨gd, 0, none⟩) ds.length dc, .int .i64 nx, .slice (some ⟨gp, 0, none⟩) ps.length pc, .int .i64 tk, .bool rc] 37)).alloc (.cells #[.int .i64 0, .int .i64 0, .int .i64 0, .int .i64 0, .int .i64 0, .int .i64 0, .int .i64 0, .int .i64 0, .int .i64 0, .int .i64 0, .int .i64 0, .int .i64 0, .int .i64 0, .int .i64 0, .slice none 0 0, .int .i64 0, .slice none 0 0, .int .i64 0, .bool false] 39))) := hW0
  clear hW0 hI
  go_enter Tryz.func6, Tryz.ntmps6
  go_upto_region 1 with fail
  rw [← HW0.out]
  go_wp2_with (first | (refine load_blk 37 _ Tryz.underlying37 (by kernel_rfl) F0.out rfl rfl rfl ?_) | (go_at_call 18; refine (specGroupFault_any h ds (some ⟨gd, 0, none⟩) dc nx ps (some ⟨gp, 0, none⟩) pc tk rc hld hlp _ FI.out.din FI.out.pin).mono ?_; rintro e w1 ⟨rfl, hb⟩; have F0 : Hid (Blk w1 w.heap.size (gvs h (.slice (some ⟨gd, 0, none⟩) ds.length dc) nx (.slice (some ⟨gp, 0, none⟩) ps.length pc) tk rc)) := F0.out.below hb F0.out.lt; have F1 : Hid (Blk w1 (w.heap.size + 1) ([.int .i64 0, .int .i64 0, .int .i64 0, .int .i64 0, .int .i64 0, .int .i64 0, .int .i64 0, .int .i64 0, .int .i64 0, .int .i64 0, .int .i64 0, .int .i64 0, .int .i64 0, .int .i64 0, .slice none 0 0, .int .i64 0, .slice none 0 0, .int .i64 0, .bool false])) := F1.out.below hb F1.out.lt; have FI : Hid (GI w1 gd gp ds ps) := FI.out.below hb FI.out.ld FI.out.lp; have FB : Hid (Below w.heap.size w w1) := FB.out.trans (hb.mono FB.out.size); clear hb) | (refine store_blk ([.int .i64 (Gr.fault ⟨h, ds, ⟨nx, ps⟩, tk, rc⟩), .int .i64 0, .int .i64 0, .int .i64 0, .int .i64 0, .int .i64 0, .int .i64 0, .int .i64 0, .int .i64 0, .int .i64 0, .int .i64 0, .int .i64 0, .int .i64 0, .int .i64 0, .slice none 0 0, .int .i64 0, .slice none 0 0, .int .i64 0, .bool false]) 39 _ _ (by kernel_rfl) (by kernel_rfl) (by kernel_rfl) F1.out rfl rfl rfl rfl ?_))
  exact bodyPost_ret (v := .agg #[.int .i64 (Gr.fault ⟨h, ds, ⟨nx, ps⟩, tk, rc⟩), .int .i64 0, .int .i64 0, .int .i64 0, .int .i64 0, .int .i64 0, .int .i64 0, .int .i64 0, .int .i64 0, .int .i64 0, .int .i64 0, .int .i64 0, .int .i64 0, .int .i64 0, .slice none 0 0, .int .i64 0, .slice none 0 0, .int .i64 0, .bool false]) ((F1.out.row [.int .i64 (Gr.fault ⟨h, ds, ⟨nx, ps⟩, tk, rc⟩), .int .i64 0, .int .i64 0, .int .i64 0, .int .i64 0, .int .i64 0, .int .i64 0, .int .i64 0, .int .i64 0, .int .i64 0, .int .i64 0, .int .i64 0, .int .i64 0, .int .i64 0, .slice none 0 0, .int .i64 0, .slice none 0 0, .int .i64 0, .bool false]).res _ Tryz.results6 Tryz.underlying39 (by kernel_rfl) rfl) rfl (isGrp.no (below_row FB.out (by omega) _))
set_option maxRecDepth 20000 in
set_option maxHeartbeats 32000000 in
theorem specRecallGroup_true (h : Hs) (ds : List Dk) (gd dc : Nat) (nx : Int) (ps : List Pe) (gp pc : Nat) (tk : Int) (rc : Bool) (hf : Gr.fault ⟨h, ds, ⟨nx, ps⟩, tk, rc⟩ = 0) (hld : ds.length ≤ 1048576) (hlp : ps.length ≤ 1048576) (w : World) (hI : GI w gd gp ds ps) : Calls Tryz.prog 14 #[.agg #[.int .i64 h.fl, .int .i64 h.gp, .int .i64 h.ln, .int .i64 h.rf, .int .i64 h.sp, .int .i64 h.pu, .int .i64 h.br, .int .i64 h.dr, .int .i64 h.lv, .int .i64 h.dO, .int .i64 h.ld, .int .i64 h.qu, .slice (some ⟨gd, 0, none⟩) ds.length dc, .int .i64 nx, .slice (some ⟨gp, 0, none⟩) ps.length pc, .int .i64 tk, .bool rc], .bool true] w (isGrp w 0 0 h (ds) nx (ps.map dropP) tk true) := by
  have F0 : Hid (Blk ((w.alloc (.cells #[.int .i64 h.fl, .int .i64 h.gp, .int .i64 h.ln, .int .i64 h.rf, .int .i64 h.sp, .int .i64 h.pu, .int .i64 h.br, .int .i64 h.dr, .int .i64 h.lv, .int .i64 h.dO, .int .i64 h.ld, .int .i64 h.qu, .slice (some ⟨gd, 0, none⟩) ds.length dc, .int .i64 nx, .slice (some ⟨gp, 0, none⟩) ps.length pc, .int .i64 tk, .bool rc] 37)).alloc (.cells #[.int .i64 0, .int .i64 0, .int .i64 0, .int .i64 0, .int .i64 0, .int .i64 0, .int .i64 0, .int .i64 0, .int .i64 0, .int .i64 0, .int .i64 0, .int .i64 0, .int .i64 0, .int .i64 0, .slice none 0 0, .int .i64 0, .slice none 0 0, .int .i64 0, .bool false] 39)) w.heap.size (gvs h (.slice (some ⟨gd, 0, none⟩) ds.length dc) nx (.slice (some ⟨gp, 0, none⟩) ps.length pc) tk rc)) := (Blk.at_ w #[.int .i64 h.fl, .int .i64 h.gp, .int .i64 h.ln, .int .i64 h.rf, .int .i64 h.sp, .int .i64 h.pu, .int .i64 h.br, .int .i64 h.dr, .int .i64 h.lv, .int .i64 h.dO, .int .i64 h.ld, .int .i64 h.qu, .slice (some ⟨gd, 0, none⟩) ds.length dc, .int .i64 nx, .slice (some ⟨gp, 0, none⟩) ps.length pc, .int .i64 tk, .bool rc] _ _ rfl).alloc _
  have F1 : Hid (Blk ((w.alloc (.cells #[.int .i64 h.fl, .int .i64 h.gp, .int .i64 h.ln, .int .i64 h.rf, .int .i64 h.sp, .int .i64 h.pu, .int .i64 h.br, .int .i64 h.dr, .int .i64 h.lv, .int .i64 h.dO, .int .i64 h.ld, .int .i64 h.qu, .slice (some ⟨gd, 0, none⟩) ds.length dc, .int .i64 nx, .slice (some ⟨gp, 0, none⟩) ps.length pc, .int .i64 tk, .bool rc] 37)).alloc (.cells #[.int .i64 0, .int .i64 0, .int .i64 0, .int .i64 0, .int .i64 0, .int .i64 0, .int .i64 0, .int .i64 0, .int .i64 0, .int .i64 0, .int .i64 0, .int .i64 0, .int .i64 0, .int .i64 0, .slice none 0 0, .int .i64 0, .slice none 0 0, .int .i64 0, .bool false] 39)) (w.heap.size + 1) ([.int .i64 0, .int .i64 0, .int .i64 0, .int .i64 0, .int .i64 0, .int .i64 0, .int .i64 0, .int .i64 0, .int .i64 0, .int .i64 0, .int .i64 0, .int .i64 0, .int .i64 0, .int .i64 0, .slice none 0 0, .int .i64 0, .slice none 0 0, .int .i64 0, .bool false])) := Blk.at_ _ #[.int .i64 0, .int .i64 0, .int .i64 0, .int .i64 0, .int .i64 0, .int .i64 0, .int .i64 0, .int .i64 0, .int .i64 0, .int .i64 0, .int .i64 0, .int .i64 0, .int .i64 0, .int .i64 0, .slice none 0 0, .int .i64 0, .slice none 0 0, .int .i64 0, .bool false] _ _ (by simp)
  have FB : Hid (Below w.heap.size w ((w.alloc (.cells #[.int .i64 h.fl, .int .i64 h.gp, .int .i64 h.ln, .int .i64 h.rf, .int .i64 h.sp, .int .i64 h.pu, .int .i64 h.br, .int .i64 h.dr, .int .i64 h.lv, .int .i64 h.dO, .int .i64 h.ld, .int .i64 h.qu, .slice (some ⟨gd, 0, none⟩) ds.length dc, .int .i64 nx, .slice (some ⟨gp, 0, none⟩) ps.length pc, .int .i64 tk, .bool rc] 37)).alloc (.cells #[.int .i64 0, .int .i64 0, .int .i64 0, .int .i64 0, .int .i64 0, .int .i64 0, .int .i64 0, .int .i64 0, .int .i64 0, .int .i64 0, .int .i64 0, .int .i64 0, .int .i64 0, .int .i64 0, .slice none 0 0, .int .i64 0, .slice none 0 0, .int .i64 0, .bool false] 39))) := ((Below.refl _ _).alloc (Nat.le_refl _) _).alloc (by simp) _
  have FI : Hid (GI ((w.alloc (.cells #[.int .i64 h.fl, .int .i64 h.gp, .int .i64 h.ln, .int .i64 h.rf, .int .i64 h.sp, .int .i64 h.pu, .int .i64 h.br, .int .i64 h.dr, .int .i64 h.lv, .int .i64 h.dO, .int .i64 h.ld, .int .i64 h.qu, .slice (some ⟨gd, 0, none⟩) ds.length dc, .int .i64 nx, .slice (some ⟨gp, 0, none⟩) ps.length pc, .int .i64 tk, .bool rc] 37)).alloc (.cells #[.int .i64 0, .int .i64 0, .int .i64 0, .int .i64 0, .int .i64 0, .int .i64 0, .int .i64 0, .int .i64 0, .int .i64 0, .int .i64 0, .int .i64 0, .int .i64 0, .int .i64 0, .int .i64 0, .slice none 0 0, .int .i64 0, .slice none 0 0, .int .i64 0, .bool false] 39)) gd gp ds ps) := (hI.alloc _).alloc _
  have LI : Hid (gd < w.heap.size ∧ gp < w.heap.size) := ⟨hI.ld, hI.lp⟩
  obtain ⟨W0, hW0⟩ : ∃ W0, W0 = ((w.alloc (.cells #[.int .i64 h.fl, .int .i64 h.gp, .int .i64 h.ln, .int .i64 h.rf, .int .i64 h.sp, .int .i64 h.pu, .int .i64 h.br, .int .i64 h.dr, .int .i64 h.lv, .int .i64 h.dO, .int .i64 h.ld, .int .i64 h.qu, .slice (some ⟨gd, 0, none⟩) ds.length dc, .int .i64 nx, .slice (some ⟨gp, 0, none⟩) ps.length pc, .int .i64 tk, .bool rc] 37)).alloc (.cells #[.int .i64 0, .int .i64 0, .int .i64 0, .int .i64 0, .int .i64 0, .int .i64 0, .int .i64 0, .int .i64 0, .int .i64 0, .int .i64 0, .int .i64 0, .int .i64 0, .int .i64 0, .int .i64 0, .slice none 0 0, .int .i64 0, .slice none 0 0, .int .i64 0, .bool false] 39)) := ⟨_, rfl⟩
  rw [← hW0] at F0 F1 FB FI
  have HW0 : Hid (W0 = ((w.alloc (.cells #[.int .i64 h.fl, .int .i64 h.gp, .int .i64 h.ln, .int .i64 h.rf, .int .i64 h.sp, .int .i64 h.pu, .int .i64 h.br, .int .i64 h.dr, .int .i64 h.lv, .int .i64 h.dO, .int .i64 h.ld, .int .i64 h.qu, .slice (some ⟨gd, 0, none⟩) ds.length dc, .int .i64 nx, .slice (some ⟨gp, 0, none⟩) ps.length pc, .int .i64 tk, .bool rc] 37)).alloc (.cells #[.int .i64 0, .int .i64 0, .int .i64 0, .int .i64 0, .int .i64 0, .int .i64 0, .int .i64 0, .int .i64 0, .int .i64 0, .int .i64 0, .int .i64 0, .int .i64 0, .int .i64 0, .int .i64 0, .slice none 0 0, .int .i64 0, .slice none 0 0, .int .i64 0, .bool false] 39))) := hW0
  clear hW0 hI
  go_enter Tryz.func14, Tryz.ntmps14
  go_upto_region 1 with fail
  rw [← HW0.out]
  clear HW0
  go_upto_region 5 with (first | (refine load_blk 37 _ Tryz.underlying37 (by kernel_rfl) F0.out rfl rfl rfl ?_) | (go_at_call 18; refine (specGroupFault_any h ds (some ⟨gd, 0, none⟩) dc nx ps (some ⟨gp, 0, none⟩) pc tk rc hld hlp _ FI.out.din FI.out.pin).mono ?_; rw [hf]; rintro e w1 ⟨rfl, hb⟩; have F0 : Hid (Blk w1 w.heap.size (gvs h (.slice (some ⟨gd, 0, none⟩) ds.length dc) nx (.slice (some ⟨gp, 0, none⟩) ps.length pc) tk rc)) := F0.out.below hb F0.out.lt; have F1 : Hid (Blk w1 (w.heap.size + 1) ([.int .i64 0, .int .i64 0, .int .i64 0, .int .i64 0, .int .i64 0, .int .i64 0, .int .i64 0, .int .i64 0, .int .i64 0, .int .i64 0, .int .i64 0, .int .i64 0, .int .i64 0, .int .i64 0, .slice none 0 0, .int .i64 0, .slice none 0 0, .int .i64 0, .bool false])) := F1.out.below hb F1.out.lt; have FI : Hid (GI w1 gd gp ds ps) := FI.out.below hb FI.out.ld FI.out.lp; have FB : Hid (Below w.heap.size w w1) := FB.out.trans (hb.mono FB.out.size); clear hb) | (go_at_call 19; refine (l8Copy_any h ds gd dc nx ps gp pc tk rc hld hlp _ FI.out).mono ?_; rintro e w2 ⟨g1, c1, g2, c2, rfl, ho1, ho2, ne12, hb⟩; have q1 := F1.out.lt; have FD : Hid (OwD w2 (w.heap.size + 2) g1 ds.length c1 (ds)) := ho1.base (by omega); have FP : Hid (Ow w2 (w.heap.size + 2) g2 ps.length c2 (ps)) := ho2.base (by omega); have F0 : Hid (Blk w2 w.heap.size (gvs h (.slice (some ⟨gd, 0, none⟩) ds.length dc) nx (.slice (some ⟨gp, 0, none⟩) ps.length pc) tk rc)) := F0.out.below hb F0.out.lt; have F1 : Hid (Blk w2 (w.heap.size + 1) ([.int .i64 0, .int .i64 0, .int .i64 0, .int .i64 0, .int .i64 0, .int .i64 0, .int .i64 0, .int .i64 0, .int .i64 0, .int .i64 0, .int .i64 0, .int .i64 0, .int .i64 0, .int .i64 0, .slice none 0 0, .int .i64 0, .slice none 0 0, .int .i64 0, .bool false])) := F1.out.below hb F1.out.lt; have FI : Hid (GI w2 gd gp ds ps) := FI.out.below hb FI.out.ld FI.out.lp; have FB : Hid (Below w.heap.size w w2) := FB.out.trans (hb.mono FB.out.size); clear hb; clear ho1 ho2 q1) | (refine store_new (gvs h (.slice (some ⟨g1, 0, none⟩) ds.length c1) nx (.slice (some ⟨g2, 0, none⟩) ps.length c2) tk rc) 37 _ _ (by kernel_rfl) (by kernel_rfl) (by kernel_rfl) rfl rfl rfl rfl ?_))
  obtain ⟨gb, hgb⟩ : ∃ b, b = w2.heap.size := ⟨_, rfl⟩
  obtain ⟨W3, hW⟩ : ∃ W, W = w2.alloc (.cells (gvs h (.slice (some ⟨g1, 0, none⟩) ds.length c1) nx (.slice (some ⟨g2, 0, none⟩) ps.length c2) tk rc).toArray 37) := ⟨_, rfl⟩
  have lg := F1.out.lt
  rw [← hgb] at lg
  have lg1 := FD.out.bl.2
  rw [← hgb] at lg1
  have lg2 := FP.out.bl.2
  rw [← hgb] at lg2
  have F0 : Hid (Blk W3 w.heap.size (gvs h (.slice (some ⟨gd, 0, none⟩) ds.length dc) nx (.slice (some ⟨gp, 0, none⟩) ps.length pc) tk rc)) := by rw [hW]; exact F0.out.alloc _
  have F1 : Hid (Blk W3 (w.heap.size + 1) ([.int .i64 0, .int .i64 0, .int .i64 0, .int .i64 0, .int .i64 0, .int .i64 0, .int .i64 0, .int .i64 0, .int .i64 0, .int .i64 0, .int .i64 0, .int .i64 0, .int .i64 0, .int .i64 0, .slice none 0 0, .int .i64 0, .slice none 0 0, .int .i64 0, .bool false])) := by rw [hW]; exact F1.out.alloc _
  have FI : Hid (GI W3 gd gp ds ps) := by rw [hW]; exact FI.out.alloc _
  have FB : Hid (Below w.heap.size w W3) := by rw [hW]; exact FB.out.alloc FB.out.size _
  have FD : Hid (OwD W3 (w.heap.size + 2) g1 ds.length c1 (ds)) := by rw [hW]; exact FD.out.alloc _
  have FP : Hid (Ow W3 (w.heap.size + 2) g2 ps.length c2 (ps)) := by rw [hW]; exact FP.out.alloc _
  have FG : Hid (Blk W3 gb (gvs h (.slice (some ⟨g1, 0, none⟩) ds.length c1) nx (.slice (some ⟨g2, 0, none⟩) ps.length c2) tk rc)) := by rw [hW]; exact Blk.at_ w2 (gvs h (.slice (some ⟨g1, 0, none⟩) ds.length c1) nx (.slice (some ⟨g2, 0, none⟩) ps.length c2) tk rc).toArray _ _ hgb
  rw [← hW, ← hgb]
  clear hW hgb
  have k16 := FG.out.c 16 _ rfl
  have kf16 := FG.out.f 16 (Nat.le_of_ble_eq_true rfl)
  have LB : Hid (w.heap.size + 2 ≤ g2) := FP.out.bl.1
  have lB := LB.out
  go_upto_region 6 with fail
  obtain ⟨W4, hw_⟩ : ∃ W, W = W3.setCell ⟨gb, 16, none⟩ (.bool true) := ⟨_, rfl⟩
  rw [← hw_]
  have FG : Hid (Blk W4 gb (gvs h (.slice (some ⟨g1, 0, none⟩) ds.length c1) nx (.slice (some ⟨g2, 0, none⟩) ps.length c2) tk true)) := by rw [hw_]; exact FG.out.set _ (Nat.le_of_ble_eq_true rfl)
  have F0 : Hid (Blk W4 w.heap.size (gvs h (.slice (some ⟨gd, 0, none⟩) ds.length dc) nx (.slice (some ⟨gp, 0, none⟩) ps.length pc) tk rc)) := by rw [hw_]; exact F0.out.other (by omega)
  have F1 : Hid (Blk W4 (w.heap.size + 1) ([.int .i64 0, .int .i64 0, .int .i64 0, .int .i64 0, .int .i64 0, .int .i64 0, .int .i64 0, .int .i64 0, .int .i64 0, .int .i64 0, .int .i64 0, .int .i64 0, .int .i64 0, .int .i64 0, .slice none 0 0, .int .i64 0, .slice none 0 0, .int .i64 0, .bool false])) := by rw [hw_]; exact F1.out.other (by omega)
  have FD : Hid (OwD W4 (w.heap.size + 2) g1 ds.length c1 (ds)) := by rw [hw_]; exact FD.out.other (p := ⟨gb, 16, none⟩) (by show _ ≠ gb; omega) _
  have FP : Hid (Ow W4 (w.heap.size + 2) g2 ps.length c2 (ps)) := by rw [hw_]; exact FP.out.other (p := ⟨gb, 16, none⟩) (by show _ ≠ gb; omega) _
  have FB : Hid (Below w.heap.size w W4) := by rw [hw_]; exact FB.out.setCell (by show w.heap.size ≤ gb; omega) _
  clear hw_ k16 kf16 FI
  go_upto_region 8 with (go_at_call 21; refine (l7Drop_anyO gb 13 nx (w.heap.size + 2) g2 ps.length c2 ps hlp (by omega) _ ⟨FG.out.c 13 _ rfl, FG.out.c 14 _ rfl⟩ FP.out).mono ?_; rintro e w5 ⟨rfl, ho, hg⟩; have FG : Hid (Blk w5 gb (gvs h (.slice (some ⟨g1, 0, none⟩) ds.length c1) nx (.slice (some ⟨g2, 0, none⟩) ps.length c2) tk true)) := FG.out.grown hg (fun e => by have e2 := Option.some.inj e; omega); have F1 : Hid (Blk w5 (w.heap.size + 1) ([.int .i64 0, .int .i64 0, .int .i64 0, .int .i64 0, .int .i64 0, .int .i64 0, .int .i64 0, .int .i64 0, .int .i64 0, .int .i64 0, .int .i64 0, .int .i64 0, .int .i64 0, .int .i64 0, .slice none 0 0, .int .i64 0, .slice none 0 0, .int .i64 0, .bool false])) := F1.out.grown hg (fun e => by have e2 := Option.some.inj e; omega); have FD : Hid (OwD w5 (w.heap.size + 2) g1 ds.length c1 (ds)) := FD.out.kept hg (fun e => by have e2 := Option.some.inj e; omega); have FB : Hid (Below w.heap.size w w5) := below_grown FB.out hg (fun j hj => by have e2 : g2 = j := Option.some.inj hj; omega) FB.out.size; have FP : Hid (Ow w5 (w.heap.size + 2) g2 ps.length c2 (ps.map dropP)) := ho; clear ho hg)
  go_wp2_with (first | (refine load_blk 37 _ Tryz.underlying37 (by kernel_rfl) FG.out rfl rfl rfl ?_) | (refine store_blk (rvs 0 0 h (.slice (some ⟨g1, 0, none⟩) ds.length c1) nx (.slice (some ⟨g2, 0, none⟩) ps.length c2) tk true) 39 _ _ (by kernel_rfl) (by kernel_rfl) (by kernel_rfl) F1.out rfl rfl rfl rfl ?_))
  refine bodyPost_ret (v := .agg #[.int .i64 0, .int .i64 0, .int .i64 h.fl, .int .i64 h.gp, .int .i64 h.ln, .int .i64 h.rf, .int .i64 h.sp, .int .i64 h.pu, .int .i64 h.br, .int .i64 h.dr, .int .i64 h.lv, .int .i64 h.dO, .int .i64 h.ld, .int .i64 h.qu, .slice (some ⟨g1, 0, none⟩) ds.length c1, .int .i64 nx, .slice (some ⟨g2, 0, none⟩) ps.length c2, .int .i64 tk, .bool true]) ((F1.out.row (rvs 0 0 h (.slice (some ⟨g1, 0, none⟩) ds.length c1) nx (.slice (some ⟨g2, 0, none⟩) ps.length c2) tk true)).res _ Tryz.results14 Tryz.underlying39 (by kernel_rfl) rfl) rfl ?_
  have o1 := ((FD.out.row (b := w.heap.size + 1) (by have := FD.out.bl.1; omega) (rvs 0 0 h (.slice (some ⟨g1, 0, none⟩) ds.length c1) nx (.slice (some ⟨g2, 0, none⟩) ps.length c2) tk true).toArray).base (show w.heap.size ≤ w.heap.size + 2 by omega)).own
  have o2 := ((FP.out.row (b := w.heap.size + 1) (by have := FP.out.bl.1; omega) (rvs 0 0 h (.slice (some ⟨g1, 0, none⟩) ds.length c1) nx (.slice (some ⟨g2, 0, none⟩) ps.length c2) tk true).toArray).base (show w.heap.size ≤ w.heap.size + 2 by omega)).own
  have hq1 : (ds).length = ds.length := rfl
  have hq2 : (ps.map dropP).length = ps.length := List.length_map ..
  exact ⟨some ⟨g1, 0, none⟩, c1, some ⟨g2, 0, none⟩, c2, by rw [hq1, hq2], by rw [hq1]; exact o1, by rw [hq2]; exact o2, (fun j e1 e2 => by have a1 : g1 = j := Option.some.inj e1; have a2 : g2 = j := Option.some.inj e2; omega), below_row FB.out (by omega) _⟩
set_option maxRecDepth 20000 in
set_option maxHeartbeats 32000000 in
theorem specRecallGroup_false (h : Hs) (ds : List Dk) (gd dc : Nat) (nx : Int) (ps : List Pe) (gp pc : Nat) (tk : Int) (rc : Bool) (hf : Gr.fault ⟨h, ds, ⟨nx, ps⟩, tk, rc⟩ = 0) (hld : ds.length ≤ 1048576) (hlp : ps.length ≤ 1048576) (w : World) (hI : GI w gd gp ds ps) : Calls Tryz.prog 14 #[.agg #[.int .i64 h.fl, .int .i64 h.gp, .int .i64 h.ln, .int .i64 h.rf, .int .i64 h.sp, .int .i64 h.pu, .int .i64 h.br, .int .i64 h.dr, .int .i64 h.lv, .int .i64 h.dO, .int .i64 h.ld, .int .i64 h.qu, .slice (some ⟨gd, 0, none⟩) ds.length dc, .int .i64 nx, .slice (some ⟨gp, 0, none⟩) ps.length pc, .int .i64 tk, .bool rc], .bool false] w (isGrp w 0 0 h (ds) nx (ps) tk false) := by
  have F0 : Hid (Blk ((w.alloc (.cells #[.int .i64 h.fl, .int .i64 h.gp, .int .i64 h.ln, .int .i64 h.rf, .int .i64 h.sp, .int .i64 h.pu, .int .i64 h.br, .int .i64 h.dr, .int .i64 h.lv, .int .i64 h.dO, .int .i64 h.ld, .int .i64 h.qu, .slice (some ⟨gd, 0, none⟩) ds.length dc, .int .i64 nx, .slice (some ⟨gp, 0, none⟩) ps.length pc, .int .i64 tk, .bool rc] 37)).alloc (.cells #[.int .i64 0, .int .i64 0, .int .i64 0, .int .i64 0, .int .i64 0, .int .i64 0, .int .i64 0, .int .i64 0, .int .i64 0, .int .i64 0, .int .i64 0, .int .i64 0, .int .i64 0, .int .i64 0, .slice none 0 0, .int .i64 0, .slice none 0 0, .int .i64 0, .bool false] 39)) w.heap.size (gvs h (.slice (some ⟨gd, 0, none⟩) ds.length dc) nx (.slice (some ⟨gp, 0, none⟩) ps.length pc) tk rc)) := (Blk.at_ w #[.int .i64 h.fl, .int .i64 h.gp, .int .i64 h.ln, .int .i64 h.rf, .int .i64 h.sp, .int .i64 h.pu, .int .i64 h.br, .int .i64 h.dr, .int .i64 h.lv, .int .i64 h.dO, .int .i64 h.ld, .int .i64 h.qu, .slice (some ⟨gd, 0, none⟩) ds.length dc, .int .i64 nx, .slice (some ⟨gp, 0, none⟩) ps.length pc, .int .i64 tk, .bool rc] _ _ rfl).alloc _
  have F1 : Hid (Blk ((w.alloc (.cells #[.int .i64 h.fl, .int .i64 h.gp, .int .i64 h.ln, .int .i64 h.rf, .int .i64 h.sp, .int .i64 h.pu, .int .i64 h.br, .int .i64 h.dr, .int .i64 h.lv, .int .i64 h.dO, .int .i64 h.ld, .int .i64 h.qu, .slice (some ⟨gd, 0, none⟩) ds.length dc, .int .i64 nx, .slice (some ⟨gp, 0, none⟩) ps.length pc, .int .i64 tk, .bool rc] 37)).alloc (.cells #[.int .i64 0, .int .i64 0, .int .i64 0, .int .i64 0, .int .i64 0, .int .i64 0, .int .i64 0, .int .i64 0, .int .i64 0, .int .i64 0, .int .i64 0, .int .i64 0, .int .i64 0, .int .i64 0, .slice none 0 0, .int .i64 0, .slice none 0 0, .int .i64 0, .bool false] 39)) (w.heap.size + 1) ([.int .i64 0, .int .i64 0, .int .i64 0, .int .i64 0, .int .i64 0, .int .i64 0, .int .i64 0, .int .i64 0, .int .i64 0, .int .i64 0, .int .i64 0, .int .i64 0, .int .i64 0, .int .i64 0, .slice none 0 0, .int .i64 0, .slice none 0 0, .int .i64 0, .bool false])) := Blk.at_ _ #[.int .i64 0, .int .i64 0, .int .i64 0, .int .i64 0, .int .i64 0, .int .i64 0, .int .i64 0, .int .i64 0, .int .i64 0, .int .i64 0, .int .i64 0, .int .i64 0, .int .i64 0, .int .i64 0, .slice none 0 0, .int .i64 0, .slice none 0 0, .int .i64 0, .bool false] _ _ (by simp)
  have FB : Hid (Below w.heap.size w ((w.alloc (.cells #[.int .i64 h.fl, .int .i64 h.gp, .int .i64 h.ln, .int .i64 h.rf, .int .i64 h.sp, .int .i64 h.pu, .int .i64 h.br, .int .i64 h.dr, .int .i64 h.lv, .int .i64 h.dO, .int .i64 h.ld, .int .i64 h.qu, .slice (some ⟨gd, 0, none⟩) ds.length dc, .int .i64 nx, .slice (some ⟨gp, 0, none⟩) ps.length pc, .int .i64 tk, .bool rc] 37)).alloc (.cells #[.int .i64 0, .int .i64 0, .int .i64 0, .int .i64 0, .int .i64 0, .int .i64 0, .int .i64 0, .int .i64 0, .int .i64 0, .int .i64 0, .int .i64 0, .int .i64 0, .int .i64 0, .int .i64 0, .slice none 0 0, .int .i64 0, .slice none 0 0, .int .i64 0, .bool false] 39))) := ((Below.refl _ _).alloc (Nat.le_refl _) _).alloc (by simp) _
  have FI : Hid (GI ((w.alloc (.cells #[.int .i64 h.fl, .int .i64 h.gp, .int .i64 h.ln, .int .i64 h.rf, .int .i64 h.sp, .int .i64 h.pu, .int .i64 h.br, .int .i64 h.dr, .int .i64 h.lv, .int .i64 h.dO, .int .i64 h.ld, .int .i64 h.qu, .slice (some ⟨gd, 0, none⟩) ds.length dc, .int .i64 nx, .slice (some ⟨gp, 0, none⟩) ps.length pc, .int .i64 tk, .bool rc] 37)).alloc (.cells #[.int .i64 0, .int .i64 0, .int .i64 0, .int .i64 0, .int .i64 0, .int .i64 0, .int .i64 0, .int .i64 0, .int .i64 0, .int .i64 0, .int .i64 0, .int .i64 0, .int .i64 0, .int .i64 0, .slice none 0 0, .int .i64 0, .slice none 0 0, .int .i64 0, .bool false] 39)) gd gp ds ps) := (hI.alloc _).alloc _
  have LI : Hid (gd < w.heap.size ∧ gp < w.heap.size) := ⟨hI.ld, hI.lp⟩
  obtain ⟨W0, hW0⟩ : ∃ W0, W0 = ((w.alloc (.cells #[.int .i64 h.fl, .int .i64 h.gp, .int .i64 h.ln, .int .i64 h.rf, .int .i64 h.sp, .int .i64 h.pu, .int .i64 h.br, .int .i64 h.dr, .int .i64 h.lv, .int .i64 h.dO, .int .i64 h.ld, .int .i64 h.qu, .slice (some ⟨gd, 0, none⟩) ds.length dc, .int .i64 nx, .slice (some ⟨gp, 0, none⟩) ps.length pc, .int .i64 tk, .bool rc] 37)).alloc (.cells #[.int .i64 0, .int .i64 0, .int .i64 0, .int .i64 0, .int .i64 0, .int .i64 0, .int .i64 0, .int .i64 0, .int .i64 0, .int .i64 0, .int .i64 0, .int .i64 0, .int .i64 0, .int .i64 0, .slice none 0 0, .int .i64 0, .slice none 0 0, .int .i64 0, .bool false] 39)) := ⟨_, rfl⟩
  rw [← hW0] at F0 F1 FB FI
  have HW0 : Hid (W0 = ((w.alloc (.cells #[.int .i64 h.fl, .int .i64 h.gp, .int .i64 h.ln, .int .i64 h.rf, .int .i64 h.sp, .int .i64 h.pu, .int .i64 h.br, .int .i64 h.dr, .int .i64 h.lv, .int .i64 h.dO, .int .i64 h.ld, .int .i64 h.qu, .slice (some ⟨gd, 0, none⟩) ds.length dc, .int .i64 nx, .slice (some ⟨gp, 0, none⟩) ps.length pc, .int .i64 tk, .bool rc] 37)).alloc (.cells #[.int .i64 0, .int .i64 0, .int .i64 0, .int .i64 0, .int .i64 0, .int .i64 0, .int .i64 0, .int .i64 0, .int .i64 0, .int .i64 0, .int .i64 0, .int .i64 0, .int .i64 0, .int .i64 0, .slice none 0 0, .int .i64 0, .slice none 0 0, .int .i64 0, .bool false] 39))) := hW0
  clear hW0 hI
  go_enter Tryz.func14, Tryz.ntmps14
  go_upto_region 1 with fail
  rw [← HW0.out]
  clear HW0
  go_upto_region 5 with (first | (refine load_blk 37 _ Tryz.underlying37 (by kernel_rfl) F0.out rfl rfl rfl ?_) | (go_at_call 18; refine (specGroupFault_any h ds (some ⟨gd, 0, none⟩) dc nx ps (some ⟨gp, 0, none⟩) pc tk rc hld hlp _ FI.out.din FI.out.pin).mono ?_; rw [hf]; rintro e w1 ⟨rfl, hb⟩; have F0 : Hid (Blk w1 w.heap.size (gvs h (.slice (some ⟨gd, 0, none⟩) ds.length dc) nx (.slice (some ⟨gp, 0, none⟩) ps.length pc) tk rc)) := F0.out.below hb F0.out.lt; have F1 : Hid (Blk w1 (w.heap.size + 1) ([.int .i64 0, .int .i64 0, .int .i64 0, .int .i64 0, .int .i64 0, .int .i64 0, .int .i64 0, .int .i64 0, .int .i64 0, .int .i64 0, .int .i64 0, .int .i64 0, .int .i64 0, .int .i64 0, .slice none 0 0, .int .i64 0, .slice none 0 0, .int .i64 0, .bool false])) := F1.out.below hb F1.out.lt; have FI : Hid (GI w1 gd gp ds ps) := FI.out.below hb FI.out.ld FI.out.lp; have FB : Hid (Below w.heap.size w w1) := FB.out.trans (hb.mono FB.out.size); clear hb) | (go_at_call 19; refine (l8Copy_any h ds gd dc nx ps gp pc tk rc hld hlp _ FI.out).mono ?_; rintro e w2 ⟨g1, c1, g2, c2, rfl, ho1, ho2, ne12, hb⟩; have q1 := F1.out.lt; have FD : Hid (OwD w2 (w.heap.size + 2) g1 ds.length c1 (ds)) := ho1.base (by omega); have FP : Hid (Ow w2 (w.heap.size + 2) g2 ps.length c2 (ps)) := ho2.base (by omega); have F0 : Hid (Blk w2 w.heap.size (gvs h (.slice (some ⟨gd, 0, none⟩) ds.length dc) nx (.slice (some ⟨gp, 0, none⟩) ps.length pc) tk rc)) := F0.out.below hb F0.out.lt; have F1 : Hid (Blk w2 (w.heap.size + 1) ([.int .i64 0, .int .i64 0, .int .i64 0, .int .i64 0, .int .i64 0, .int .i64 0, .int .i64 0, .int .i64 0, .int .i64 0, .int .i64 0, .int .i64 0, .int .i64 0, .int .i64 0, .int .i64 0, .slice none 0 0, .int .i64 0, .slice none 0 0, .int .i64 0, .bool false])) := F1.out.below hb F1.out.lt; have FI : Hid (GI w2 gd gp ds ps) := FI.out.below hb FI.out.ld FI.out.lp; have FB : Hid (Below w.heap.size w w2) := FB.out.trans (hb.mono FB.out.size); clear hb; clear ho1 ho2 q1) | (refine store_new (gvs h (.slice (some ⟨g1, 0, none⟩) ds.length c1) nx (.slice (some ⟨g2, 0, none⟩) ps.length c2) tk rc) 37 _ _ (by kernel_rfl) (by kernel_rfl) (by kernel_rfl) rfl rfl rfl rfl ?_))
  obtain ⟨gb, hgb⟩ : ∃ b, b = w2.heap.size := ⟨_, rfl⟩
  obtain ⟨W3, hW⟩ : ∃ W, W = w2.alloc (.cells (gvs h (.slice (some ⟨g1, 0, none⟩) ds.length c1) nx (.slice (some ⟨g2, 0, none⟩) ps.length c2) tk rc).toArray 37) := ⟨_, rfl⟩
  have lg := F1.out.lt
  rw [← hgb] at lg
  have lg1 := FD.out.bl.2
  rw [← hgb] at lg1
  have lg2 := FP.out.bl.2
  rw [← hgb] at lg2
  have F0 : Hid (Blk W3 w.heap.size (gvs h (.slice (some ⟨gd, 0, none⟩) ds.length dc) nx (.slice (some ⟨gp, 0, none⟩) ps.length pc) tk rc)) := by rw [hW]; exact F0.out.alloc _
  have F1 : Hid (Blk W3 (w.heap.size + 1) ([.int .i64 0, .int .i64 0, .int .i64 0, .int .i64 0, .int .i64 0, .int .i64 0, .int .i64 0, .int .i64 0, .int .i64 0, .int .i64 0, .int .i64 0, .int .i64 0, .int .i64 0, .int .i64 0, .slice none 0 0, .int .i64 0, .slice none 0 0, .int .i64 0, .bool false])) := by rw [hW]; exact F1.out.alloc _
  have FI : Hid (GI W3 gd gp ds ps) := by rw [hW]; exact FI.out.alloc _
  have FB : Hid (Below w.heap.size w W3) := by rw [hW]; exact FB.out.alloc FB.out.size _
  have FD : Hid (OwD W3 (w.heap.size + 2) g1 ds.length c1 (ds)) := by rw [hW]; exact FD.out.alloc _
  have FP : Hid (Ow W3 (w.heap.size + 2) g2 ps.length c2 (ps)) := by rw [hW]; exact FP.out.alloc _
  have FG : Hid (Blk W3 gb (gvs h (.slice (some ⟨g1, 0, none⟩) ds.length c1) nx (.slice (some ⟨g2, 0, none⟩) ps.length c2) tk rc)) := by rw [hW]; exact Blk.at_ w2 (gvs h (.slice (some ⟨g1, 0, none⟩) ds.length c1) nx (.slice (some ⟨g2, 0, none⟩) ps.length c2) tk rc).toArray _ _ hgb
  rw [← hW, ← hgb]
  clear hW hgb
  have k16 := FG.out.c 16 _ rfl
  have kf16 := FG.out.f 16 (Nat.le_of_ble_eq_true rfl)
  have LB : Hid (w.heap.size + 2 ≤ g2) := FP.out.bl.1
  have lB := LB.out
  go_upto_region 6 with fail
  obtain ⟨W4, hw_⟩ : ∃ W, W = W3.setCell ⟨gb, 16, none⟩ (.bool false) := ⟨_, rfl⟩
  rw [← hw_]
  have FG : Hid (Blk W4 gb (gvs h (.slice (some ⟨g1, 0, none⟩) ds.length c1) nx (.slice (some ⟨g2, 0, none⟩) ps.length c2) tk false)) := by rw [hw_]; exact FG.out.set _ (Nat.le_of_ble_eq_true rfl)
  have F0 : Hid (Blk W4 w.heap.size (gvs h (.slice (some ⟨gd, 0, none⟩) ds.length dc) nx (.slice (some ⟨gp, 0, none⟩) ps.length pc) tk rc)) := by rw [hw_]; exact F0.out.other (by omega)
  have F1 : Hid (Blk W4 (w.heap.size + 1) ([.int .i64 0, .int .i64 0, .int .i64 0, .int .i64 0, .int .i64 0, .int .i64 0, .int .i64 0, .int .i64 0, .int .i64 0, .int .i64 0, .int .i64 0, .int .i64 0, .int .i64 0, .int .i64 0, .slice none 0 0, .int .i64 0, .slice none 0 0, .int .i64 0, .bool false])) := by rw [hw_]; exact F1.out.other (by omega)
  have FD : Hid (OwD W4 (w.heap.size + 2) g1 ds.length c1 (ds)) := by rw [hw_]; exact FD.out.other (p := ⟨gb, 16, none⟩) (by show _ ≠ gb; omega) _
  have FP : Hid (Ow W4 (w.heap.size + 2) g2 ps.length c2 (ps)) := by rw [hw_]; exact FP.out.other (p := ⟨gb, 16, none⟩) (by show _ ≠ gb; omega) _
  have FB : Hid (Below w.heap.size w W4) := by rw [hw_]; exact FB.out.setCell (by show w.heap.size ≤ gb; omega) _
  clear hw_ k16 kf16 FI
  go_wp2_with (first | (refine load_blk 37 _ Tryz.underlying37 (by kernel_rfl) FG.out rfl rfl rfl ?_) | (refine store_blk (rvs 0 0 h (.slice (some ⟨g1, 0, none⟩) ds.length c1) nx (.slice (some ⟨g2, 0, none⟩) ps.length c2) tk false) 39 _ _ (by kernel_rfl) (by kernel_rfl) (by kernel_rfl) F1.out rfl rfl rfl rfl ?_))
  refine bodyPost_ret (v := .agg #[.int .i64 0, .int .i64 0, .int .i64 h.fl, .int .i64 h.gp, .int .i64 h.ln, .int .i64 h.rf, .int .i64 h.sp, .int .i64 h.pu, .int .i64 h.br, .int .i64 h.dr, .int .i64 h.lv, .int .i64 h.dO, .int .i64 h.ld, .int .i64 h.qu, .slice (some ⟨g1, 0, none⟩) ds.length c1, .int .i64 nx, .slice (some ⟨g2, 0, none⟩) ps.length c2, .int .i64 tk, .bool false]) ((F1.out.row (rvs 0 0 h (.slice (some ⟨g1, 0, none⟩) ds.length c1) nx (.slice (some ⟨g2, 0, none⟩) ps.length c2) tk false)).res _ Tryz.results14 Tryz.underlying39 (by kernel_rfl) rfl) rfl ?_
  have o1 := ((FD.out.row (b := w.heap.size + 1) (by have := FD.out.bl.1; omega) (rvs 0 0 h (.slice (some ⟨g1, 0, none⟩) ds.length c1) nx (.slice (some ⟨g2, 0, none⟩) ps.length c2) tk false).toArray).base (show w.heap.size ≤ w.heap.size + 2 by omega)).own
  have o2 := ((FP.out.row (b := w.heap.size + 1) (by have := FP.out.bl.1; omega) (rvs 0 0 h (.slice (some ⟨g1, 0, none⟩) ds.length c1) nx (.slice (some ⟨g2, 0, none⟩) ps.length c2) tk false).toArray).base (show w.heap.size ≤ w.heap.size + 2 by omega)).own
  have hq1 : (ds).length = ds.length := rfl
  have hq2 : (ps).length = ps.length := rfl
  exact ⟨some ⟨g1, 0, none⟩, c1, some ⟨g2, 0, none⟩, c2, by rw [hq1, hq2], by rw [hq1]; exact o1, by rw [hq2]; exact o2, (fun j e1 e2 => by have a1 : g1 = j := Option.some.inj e1; have a2 : g2 = j := Option.some.inj e2; omega), below_row FB.out (by omega) _⟩
set_option maxRecDepth 20000 in
set_option maxHeartbeats 32000000 in
theorem specRestartGroup_true (h : Hs) (ds : List Dk) (gd dc : Nat) (nx : Int) (ps : List Pe) (gp pc : Nat) (tk : Int) (rc : Bool) (hf : Gr.fault ⟨h, ds, ⟨nx, ps⟩, tk, rc⟩ = 0) (hld : ds.length ≤ 1048576) (hlp : ps.length ≤ 1048576) (w : World) (hI : GI w gd gp ds ps) : Calls Tryz.prog 6 #[.agg #[.int .i64 h.fl, .int .i64 h.gp, .int .i64 h.ln, .int .i64 h.rf, .int .i64 h.sp, .int .i64 h.pu, .int .i64 h.br, .int .i64 h.dr, .int .i64 h.lv, .int .i64 h.dO, .int .i64 h.ld, .int .i64 h.qu, .slice (some ⟨gd, 0, none⟩) ds.length dc, .int .i64 nx, .slice (some ⟨gp, 0, none⟩) ps.length pc, .int .i64 tk, .bool rc], .bool true] w (isGrp w 0 0 h (ds.map heldD) nx (ps) tk rc) := by
  have F0 : Hid (Blk ((w.alloc (.cells #[.int .i64 h.fl, .int .i64 h.gp, .int .i64 h.ln, .int .i64 h.rf, .int .i64 h.sp, .int .i64 h.pu, .int .i64 h.br, .int .i64 h.dr, .int .i64 h.lv, .int .i64 h.dO, .int .i64 h.ld, .int .i64 h.qu, .slice (some ⟨gd, 0, none⟩) ds.length dc, .int .i64 nx, .slice (some ⟨gp, 0, none⟩) ps.length pc, .int .i64 tk, .bool rc] 37)).alloc (.cells #[.int .i64 0, .int .i64 0, .int .i64 0, .int .i64 0, .int .i64 0, .int .i64 0, .int .i64 0, .int .i64 0, .int .i64 0, .int .i64 0, .int .i64 0, .int .i64 0, .int .i64 0, .int .i64 0, .slice none 0 0, .int .i64 0, .slice none 0 0, .int .i64 0, .bool false] 39)) w.heap.size (gvs h (.slice (some ⟨gd, 0, none⟩) ds.length dc) nx (.slice (some ⟨gp, 0, none⟩) ps.length pc) tk rc)) := (Blk.at_ w #[.int .i64 h.fl, .int .i64 h.gp, .int .i64 h.ln, .int .i64 h.rf, .int .i64 h.sp, .int .i64 h.pu, .int .i64 h.br, .int .i64 h.dr, .int .i64 h.lv, .int .i64 h.dO, .int .i64 h.ld, .int .i64 h.qu, .slice (some ⟨gd, 0, none⟩) ds.length dc, .int .i64 nx, .slice (some ⟨gp, 0, none⟩) ps.length pc, .int .i64 tk, .bool rc] _ _ rfl).alloc _
  have F1 : Hid (Blk ((w.alloc (.cells #[.int .i64 h.fl, .int .i64 h.gp, .int .i64 h.ln, .int .i64 h.rf, .int .i64 h.sp, .int .i64 h.pu, .int .i64 h.br, .int .i64 h.dr, .int .i64 h.lv, .int .i64 h.dO, .int .i64 h.ld, .int .i64 h.qu, .slice (some ⟨gd, 0, none⟩) ds.length dc, .int .i64 nx, .slice (some ⟨gp, 0, none⟩) ps.length pc, .int .i64 tk, .bool rc] 37)).alloc (.cells #[.int .i64 0, .int .i64 0, .int .i64 0, .int .i64 0, .int .i64 0, .int .i64 0, .int .i64 0, .int .i64 0, .int .i64 0, .int .i64 0, .int .i64 0, .int .i64 0, .int .i64 0, .int .i64 0, .slice none 0 0, .int .i64 0, .slice none 0 0, .int .i64 0, .bool false] 39)) (w.heap.size + 1) ([.int .i64 0, .int .i64 0, .int .i64 0, .int .i64 0, .int .i64 0, .int .i64 0, .int .i64 0, .int .i64 0, .int .i64 0, .int .i64 0, .int .i64 0, .int .i64 0, .int .i64 0, .int .i64 0, .slice none 0 0, .int .i64 0, .slice none 0 0, .int .i64 0, .bool false])) := Blk.at_ _ #[.int .i64 0, .int .i64 0, .int .i64 0, .int .i64 0, .int .i64 0, .int .i64 0, .int .i64 0, .int .i64 0, .int .i64 0, .int .i64 0, .int .i64 0, .int .i64 0, .int .i64 0, .int .i64 0, .slice none 0 0, .int .i64 0, .slice none 0 0, .int .i64 0, .bool false] _ _ (by simp)
  have FB : Hid (Below w.heap.size w ((w.alloc (.cells #[.int .i64 h.fl, .int .i64 h.gp, .int .i64 h.ln, .int .i64 h.rf, .int .i64 h.sp, .int .i64 h.pu, .int .i64 h.br, .int .i64 h.dr, .int .i64 h.lv, .int .i64 h.dO, .int .i64 h.ld, .int .i64 h.qu, .slice (some ⟨gd, 0, none⟩) ds.length dc, .int .i64 nx, .slice (some ⟨gp, 0, none⟩) ps.length pc, .int .i64 tk, .bool rc] 37)).alloc (.cells #[.int .i64 0, .int .i64 0, .int .i64 0, .int .i64 0, .int .i64 0, .int .i64 0, .int .i64 0, .int .i64 0, .int .i64 0, .int .i64 0, .int .i64 0, .int .i64 0, .int .i64 0, .int .i64 0, .slice none 0 0, .int .i64 0, .slice none 0 0, .int .i64 0, .bool false] 39))) := ((Below.refl _ _).alloc (Nat.le_refl _) _).alloc (by simp) _
  have FI : Hid (GI ((w.alloc (.cells #[.int .i64 h.fl, .int .i64 h.gp, .int .i64 h.ln, .int .i64 h.rf, .int .i64 h.sp, .int .i64 h.pu, .int .i64 h.br, .int .i64 h.dr, .int .i64 h.lv, .int .i64 h.dO, .int .i64 h.ld, .int .i64 h.qu, .slice (some ⟨gd, 0, none⟩) ds.length dc, .int .i64 nx, .slice (some ⟨gp, 0, none⟩) ps.length pc, .int .i64 tk, .bool rc] 37)).alloc (.cells #[.int .i64 0, .int .i64 0, .int .i64 0, .int .i64 0, .int .i64 0, .int .i64 0, .int .i64 0, .int .i64 0, .int .i64 0, .int .i64 0, .int .i64 0, .int .i64 0, .int .i64 0, .int .i64 0, .slice none 0 0, .int .i64 0, .slice none 0 0, .int .i64 0, .bool false] 39)) gd gp ds ps) := (hI.alloc _).alloc _
  have LI : Hid (gd < w.heap.size ∧ gp < w.heap.size) := ⟨hI.ld, hI.lp⟩
  obtain ⟨W0, hW0⟩ : ∃ W0, W0 = ((w.alloc (.cells #[.int .i64 h.fl, .int .i64 h.gp, .int .i64 h.ln, .int .i64 h.rf, .int .i64 h.sp, .int .i64 h.pu, .int .i64 h.br, .int .i64 h.dr, .int .i64 h.lv, .int .i64 h.dO, .int .i64 h.ld, .int .i64 h.qu, .slice (some ⟨gd, 0, none⟩) ds.length dc, .int .i64 nx, .slice (some ⟨gp, 0, none⟩) ps.length pc, .int .i64 tk, .bool rc] 37)).alloc (.cells #[.int .i64 0, .int .i64 0, .int .i64 0, .int .i64 0, .int .i64 0, .int .i64 0, .int .i64 0, .int .i64 0, .int .i64 0, .int .i64 0, .int .i64 0, .int .i64 0, .int .i64 0, .int .i64 0, .slice none 0 0, .int .i64 0, .slice none 0 0, .int .i64 0, .bool false] 39)) := ⟨_, rfl⟩
  rw [← hW0] at F0 F1 FB FI
  have HW0 : Hid (W0 = ((w.alloc (.cells #[.int .i64 h.fl, .int .i64 h.gp, .int .i64 h.ln, .int .i64 h.rf, .int .i64 h.sp, .int .i64 h.pu, .int .i64 h.br, .int .i64 h.dr, .int .i64 h.lv, .int .i64 h.dO, .int .i64 h.ld, .int .i64 h.qu, .slice (some ⟨gd, 0, none⟩) ds.length dc, .int .i64 nx, .slice (some ⟨gp, 0, none⟩) ps.length pc, .int .i64 tk, .bool rc] 37)).alloc (.cells #[.int .i64 0, .int .i64 0, .int .i64 0, .int .i64 0, .int .i64 0, .int .i64 0, .int .i64 0, .int .i64 0, .int .i64 0, .int .i64 0, .int .i64 0, .int .i64 0, .int .i64 0, .int .i64 0, .slice none 0 0, .int .i64 0, .slice none 0 0, .int .i64 0, .bool false] 39))) := hW0
  clear hW0 hI
  go_enter Tryz.func6, Tryz.ntmps6
  go_upto_region 1 with fail
  rw [← HW0.out]
  clear HW0
  go_upto_region 5 with (first | (refine load_blk 37 _ Tryz.underlying37 (by kernel_rfl) F0.out rfl rfl rfl ?_) | (go_at_call 18; refine (specGroupFault_any h ds (some ⟨gd, 0, none⟩) dc nx ps (some ⟨gp, 0, none⟩) pc tk rc hld hlp _ FI.out.din FI.out.pin).mono ?_; rw [hf]; rintro e w1 ⟨rfl, hb⟩; have F0 : Hid (Blk w1 w.heap.size (gvs h (.slice (some ⟨gd, 0, none⟩) ds.length dc) nx (.slice (some ⟨gp, 0, none⟩) ps.length pc) tk rc)) := F0.out.below hb F0.out.lt; have F1 : Hid (Blk w1 (w.heap.size + 1) ([.int .i64 0, .int .i64 0, .int .i64 0, .int .i64 0, .int .i64 0, .int .i64 0, .int .i64 0, .int .i64 0, .int .i64 0, .int .i64 0, .int .i64 0, .int .i64 0, .int .i64 0, .int .i64 0, .slice none 0 0, .int .i64 0, .slice none 0 0, .int .i64 0, .bool false])) := F1.out.below hb F1.out.lt; have FI : Hid (GI w1 gd gp ds ps) := FI.out.below hb FI.out.ld FI.out.lp; have FB : Hid (Below w.heap.size w w1) := FB.out.trans (hb.mono FB.out.size); clear hb) | (go_at_call 19; refine (l8Copy_any h ds gd dc nx ps gp pc tk rc hld hlp _ FI.out).mono ?_; rintro e w2 ⟨g1, c1, g2, c2, rfl, ho1, ho2, ne12, hb⟩; have q1 := F1.out.lt; have FD : Hid (OwD w2 (w.heap.size + 2) g1 ds.length c1 (ds)) := ho1.base (by omega); have FP : Hid (Ow w2 (w.heap.size + 2) g2 ps.length c2 (ps)) := ho2.base (by omega); have F0 : Hid (Blk w2 w.heap.size (gvs h (.slice (some ⟨gd, 0, none⟩) ds.length dc) nx (.slice (some ⟨gp, 0, none⟩) ps.length pc) tk rc)) := F0.out.below hb F0.out.lt; have F1 : Hid (Blk w2 (w.heap.size + 1) ([.int .i64 0, .int .i64 0, .int .i64 0, .int .i64 0, .int .i64 0, .int .i64 0, .int .i64 0, .int .i64 0, .int .i64 0, .int .i64 0, .int .i64 0, .int .i64 0, .int .i64 0, .int .i64 0, .slice none 0 0, .int .i64 0, .slice none 0 0, .int .i64 0, .bool false])) := F1.out.below hb F1.out.lt; have FI : Hid (GI w2 gd gp ds ps) := FI.out.below hb FI.out.ld FI.out.lp; have FB : Hid (Below w.heap.size w w2) := FB.out.trans (hb.mono FB.out.size); clear hb; clear ho1 ho2 q1) | (refine store_new (gvs h (.slice (some ⟨g1, 0, none⟩) ds.length c1) nx (.slice (some ⟨g2, 0, none⟩) ps.length c2) tk rc) 37 _ _ (by kernel_rfl) (by kernel_rfl) (by kernel_rfl) rfl rfl rfl rfl ?_))
  obtain ⟨gb, hgb⟩ : ∃ b, b = w2.heap.size := ⟨_, rfl⟩
  obtain ⟨W3, hW⟩ : ∃ W, W = w2.alloc (.cells (gvs h (.slice (some ⟨g1, 0, none⟩) ds.length c1) nx (.slice (some ⟨g2, 0, none⟩) ps.length c2) tk rc).toArray 37) := ⟨_, rfl⟩
  have lg := F1.out.lt
  rw [← hgb] at lg
  have lg1 := FD.out.bl.2
  rw [← hgb] at lg1
  have lg2 := FP.out.bl.2
  rw [← hgb] at lg2
  have F0 : Hid (Blk W3 w.heap.size (gvs h (.slice (some ⟨gd, 0, none⟩) ds.length dc) nx (.slice (some ⟨gp, 0, none⟩) ps.length pc) tk rc)) := by rw [hW]; exact F0.out.alloc _
  have F1 : Hid (Blk W3 (w.heap.size + 1) ([.int .i64 0, .int .i64 0, .int .i64 0, .int .i64 0, .int .i64 0, .int .i64 0, .int .i64 0, .int .i64 0, .int .i64 0, .int .i64 0, .int .i64 0, .int .i64 0, .int .i64 0, .int .i64 0, .slice none 0 0, .int .i64 0, .slice none 0 0, .int .i64 0, .bool false])) := by rw [hW]; exact F1.out.alloc _
  have FI : Hid (GI W3 gd gp ds ps) := by rw [hW]; exact FI.out.alloc _
  have FB : Hid (Below w.heap.size w W3) := by rw [hW]; exact FB.out.alloc FB.out.size _
  have FD : Hid (OwD W3 (w.heap.size + 2) g1 ds.length c1 (ds)) := by rw [hW]; exact FD.out.alloc _
  have FP : Hid (Ow W3 (w.heap.size + 2) g2 ps.length c2 (ps)) := by rw [hW]; exact FP.out.alloc _
  have FG : Hid (Blk W3 gb (gvs h (.slice (some ⟨g1, 0, none⟩) ds.length c1) nx (.slice (some ⟨g2, 0, none⟩) ps.length c2) tk rc)) := by rw [hW]; exact Blk.at_ w2 (gvs h (.slice (some ⟨g1, 0, none⟩) ds.length c1) nx (.slice (some ⟨g2, 0, none⟩) ps.length c2) tk rc).toArray _ _ hgb
  rw [← hW, ← hgb]
  clear hW hgb
  have lB1 := FD.out.bl.1
  have lB2 := FP.out.bl.1
  clear FI F0
  go_wp2_with fail
  go_loopw [7] (fun kk wr => ∃ i : Nat, kk = .int .i64 i ∧ i ≤ ds.length ∧ Blk wr gb (gvs h (.slice (some ⟨g1, 0, none⟩) ds.length c1) nx (.slice (some ⟨g2, 0, none⟩) ps.length c2) tk rc) ∧ Blk wr (w.heap.size + 1) ([.int .i64 0, .int .i64 0, .int .i64 0, .int .i64 0, .int .i64 0, .int .i64 0, .int .i64 0, .int .i64 0, .int .i64 0, .int .i64 0, .int .i64 0, .int .i64 0, .int .i64 0, .int .i64 0, .slice none 0 0, .int .i64 0, .slice none 0 0, .int .i64 0, .bool false]) ∧ OwD wr (w.heap.size + 2) g1 ds.length c1 ((ds.take i |>.map heldD) ++ ds.drop i) ∧ Ow wr (w.heap.size + 2) g2 ps.length c2 (ps) ∧ Below w.heap.size w wr) (fun kk _ => ds.length - (intOf kk).toNat)
  case atStart => exact ⟨0, rfl, by omega, FG.out, F1.out, by simpa using FD.out, FP.out, FB.out⟩
  case round =>
    obtain ⟨i, rfl, hi, hFG, hF1, hFD, hFP, hFB⟩ := hrel
    clear FG F1 FD FP FB
    have FG : Hid (Blk wr gb (gvs h (.slice (some ⟨g1, 0, none⟩) ds.length c1) nx (.slice (some ⟨g2, 0, none⟩) ps.length c2) tk rc)) := hFG
    have F1 : Hid (Blk wr (w.heap.size + 1) ([.int .i64 0, .int .i64 0, .int .i64 0, .int .i64 0, .int .i64 0, .int .i64 0, .int .i64 0, .int .i64 0, .int .i64 0, .int .i64 0, .int .i64 0, .int .i64 0, .int .i64 0, .int .i64 0, .slice none 0 0, .int .i64 0, .slice none 0 0, .int .i64 0, .bool false])) := hF1
    have FD : Hid (OwD wr (w.heap.size + 2) g1 ds.length c1 ((ds.take i |>.map heldD) ++ ds.drop i)) := hFD
    have FP : Hid (Ow wr (w.heap.size + 2) g2 ps.length c2 (ps)) := hFP
    have FB : Hid (Below w.heap.size w wr) := hFB
    clear hFG hF1 hFD hFP hFB
    have x12 := FG.out.c 12 _ rfl
    by_cases hlt : i < ds.length
    · obtain ⟨p, hp⟩ : ∃ p, ds[i]? = some p := ⟨_, List.getElem?_eq_getElem hlt⟩
      have HZ : Hid (((ds.take i |>.map heldD) ++ ds.drop i)[i]? = some p) := held_get hp
      have HE : Hid (((ds.take i |>.map heldD) ++ ds.drop i).set i (heldD p) = (ds.take (i + 1) |>.map heldD) ++ ds.drop (i + 1)) := held_set hp
      clear hp
      have d12 := (FD.out.d13 HZ.out).c12
      have df12 := FD.out.fz (i * 13 + 12)
      go_upto_region 10 with fail
      obtain ⟨W5, hw_⟩ : ∃ W, W = wr.setCell ⟨g1, i * 13 + 12, none⟩ (.bool true) := ⟨_, rfl⟩
      rw [← hw_]
      have FG : Hid (Blk W5 gb (gvs h (.slice (some ⟨g1, 0, none⟩) ds.length c1) nx (.slice (some ⟨g2, 0, none⟩) ps.length c2) tk rc)) := by rw [hw_]; exact FG.out.other (by omega)
      have F1 : Hid (Blk W5 (w.heap.size + 1) ([.int .i64 0, .int .i64 0, .int .i64 0, .int .i64 0, .int .i64 0, .int .i64 0, .int .i64 0, .int .i64 0, .int .i64 0, .int .i64 0, .int .i64 0, .int .i64 0, .int .i64 0, .int .i64 0, .slice none 0 0, .int .i64 0, .slice none 0 0, .int .i64 0, .bool false])) := by rw [hw_]; exact F1.out.other (by omega)
      have FB : Hid (Below w.heap.size w W5) := by rw [hw_]; exact FB.out.setCell (by show w.heap.size ≤ g1; omega) _
      have FP : Hid (Ow W5 (w.heap.size + 2) g2 ps.length c2 (ps)) := by rw [hw_]; exact FP.out.other (p := ⟨g1, i * 13 + 12, none⟩) (by show _ ≠ g1; omega) _
      have FD : Hid (OwD W5 (w.heap.size + 2) g1 ds.length c1 (((ds.take i |>.map heldD) ++ ds.drop i).set i (⟨p.sh, p.sp, p.pl, p.pu, true⟩ : Dk))) := by rw [hw_]; exact FD.out.set (k := 12) (q := (⟨p.sh, p.sp, p.pl, p.pu, true⟩ : Dk)) HZ.out (by omega) rfl
      have HZ : Hid ((((ds.take i |>.map heldD) ++ ds.drop i).set i (⟨p.sh, p.sp, p.pl, p.pu, true⟩ : Dk))[i]? = some (⟨p.sh, p.sp, p.pl, p.pu, true⟩ : Dk)) := get_setD HZ.out
      clear hw_
      clear d12 df12 x12
      have d0 := (FD.out.d13 HZ.out).c0
      have d1 := (FD.out.d13 HZ.out).c1
      have d2 := (FD.out.d13 HZ.out).c2
      go_upto_region 11 with (go_at_call 20; refine (l8Again_any p.sh.lo _).mono ?_; rintro e w6 ⟨rfl, hb⟩; have FG : Hid (Blk w6 gb (gvs h (.slice (some ⟨g1, 0, none⟩) ds.length c1) nx (.slice (some ⟨g2, 0, none⟩) ps.length c2) tk rc)) := FG.out.below hb FG.out.lt; have F1 : Hid (Blk w6 (w.heap.size + 1) ([.int .i64 0, .int .i64 0, .int .i64 0, .int .i64 0, .int .i64 0, .int .i64 0, .int .i64 0, .int .i64 0, .int .i64 0, .int .i64 0, .int .i64 0, .int .i64 0, .int .i64 0, .int .i64 0, .slice none 0 0, .int .i64 0, .slice none 0 0, .int .i64 0, .bool false])) := F1.out.below hb F1.out.lt; have FB : Hid (Below w.heap.size w w6) := FB.out.trans (hb.mono FB.out.size); have FP : Hid (Ow w6 (w.heap.size + 2) g2 ps.length c2 (ps)) := FP.out.below hb FP.out.bl.2; have FD : Hid (OwD w6 (w.heap.size + 2) g1 ds.length c1 (((ds.take i |>.map heldD) ++ ds.drop i).set i (⟨p.sh, p.sp, p.pl, p.pu, true⟩ : Dk))) := FD.out.below hb FD.out.bl.2; clear hb; have e10 := (FD.out.d13 HZ.out).c10; have ef10 := FD.out.fz (i * 13 + 10))
      obtain ⟨W7, hw_⟩ : ∃ W, W = w6.setCell ⟨g1, i * 13 + 10, none⟩ (.int .i64 (agn p.sh.lo)) := ⟨_, rfl⟩
      rw [← hw_]
      have FG : Hid (Blk W7 gb (gvs h (.slice (some ⟨g1, 0, none⟩) ds.length c1) nx (.slice (some ⟨g2, 0, none⟩) ps.length c2) tk rc)) := by rw [hw_]; exact FG.out.other (by omega)
      have F1 : Hid (Blk W7 (w.heap.size + 1) ([.int .i64 0, .int .i64 0, .int .i64 0, .int .i64 0, .int .i64 0, .int .i64 0, .int .i64 0, .int .i64 0, .int .i64 0, .int .i64 0, .int .i64 0, .int .i64 0, .int .i64 0, .int .i64 0, .slice none 0 0, .int .i64 0, .slice none 0 0, .int .i64 0, .bool false])) := by rw [hw_]; exact F1.out.other (by omega)
      have FB : Hid (Below w.heap.size w W7) := by rw [hw_]; exact FB.out.setCell (by show w.heap.size ≤ g1; omega) _
      have FP : Hid (Ow W7 (w.heap.size + 2) g2 ps.length c2 (ps)) := by rw [hw_]; exact FP.out.other (p := ⟨g1, i * 13 + 10, none⟩) (by show _ ≠ g1; omega) _
      have FD : Hid (OwD W7 (w.heap.size + 2) g1 ds.length c1 ((((ds.take i |>.map heldD) ++ ds.drop i).set i (⟨p.sh, p.sp, p.pl, p.pu, true⟩ : Dk)).set i (⟨p.sh, p.sp, agn p.sh.lo, p.pu, true⟩ : Dk))) := by rw [hw_]; exact FD.out.set (k := 10) (q := (⟨p.sh, p.sp, agn p.sh.lo, p.pu, true⟩ : Dk)) HZ.out (by omega) rfl
      have HZ : Hid (((((ds.take i |>.map heldD) ++ ds.drop i).set i (⟨p.sh, p.sp, p.pl, p.pu, true⟩ : Dk)).set i (⟨p.sh, p.sp, agn p.sh.lo, p.pu, true⟩ : Dk))[i]? = some (⟨p.sh, p.sp, agn p.sh.lo, p.pu, true⟩ : Dk)) := get_setD HZ.out
      clear hw_
      clear d0 d1 d2 e10 ef10
      have d3 := (FD.out.d13 HZ.out).c3
      have d4 := (FD.out.d13 HZ.out).c4
      have d5 := (FD.out.d13 HZ.out).c5
      go_upto_region 7 with (go_at_call 20; refine (l8Again_any p.sh.up _).mono ?_; rintro e w8 ⟨rfl, hb⟩; have FG : Hid (Blk w8 gb (gvs h (.slice (some ⟨g1, 0, none⟩) ds.length c1) nx (.slice (some ⟨g2, 0, none⟩) ps.length c2) tk rc)) := FG.out.below hb FG.out.lt; have F1 : Hid (Blk w8 (w.heap.size + 1) ([.int .i64 0, .int .i64 0, .int .i64 0, .int .i64 0, .int .i64 0, .int .i64 0, .int .i64 0, .int .i64 0, .int .i64 0, .int .i64 0, .int .i64 0, .int .i64 0, .int .i64 0, .int .i64 0, .slice none 0 0, .int .i64 0, .slice none 0 0, .int .i64 0, .bool false])) := F1.out.below hb F1.out.lt; have FB : Hid (Below w.heap.size w w8) := FB.out.trans (hb.mono FB.out.size); have FP : Hid (Ow w8 (w.heap.size + 2) g2 ps.length c2 (ps)) := FP.out.below hb FP.out.bl.2; have FD : Hid (OwD w8 (w.heap.size + 2) g1 ds.length c1 ((((ds.take i |>.map heldD) ++ ds.drop i).set i (⟨p.sh, p.sp, p.pl, p.pu, true⟩ : Dk)).set i (⟨p.sh, p.sp, agn p.sh.lo, p.pu, true⟩ : Dk))) := FD.out.below hb FD.out.bl.2; clear hb; have e11 := (FD.out.d13 HZ.out).c11; have ef11 := FD.out.fz (i * 13 + 11))
      obtain ⟨W9, hw_⟩ : ∃ W, W = w8.setCell ⟨g1, i * 13 + 11, none⟩ (.int .i64 (agn p.sh.up)) := ⟨_, rfl⟩
      rw [← hw_]
      have FG : Hid (Blk W9 gb (gvs h (.slice (some ⟨g1, 0, none⟩) ds.length c1) nx (.slice (some ⟨g2, 0, none⟩) ps.length c2) tk rc)) := by rw [hw_]; exact FG.out.other (by omega)
      have F1 : Hid (Blk W9 (w.heap.size + 1) ([.int .i64 0, .int .i64 0, .int .i64 0, .int .i64 0, .int .i64 0, .int .i64 0, .int .i64 0, .int .i64 0, .int .i64 0, .int .i64 0, .int .i64 0, .int .i64 0, .int .i64 0, .int .i64 0, .slice none 0 0, .int .i64 0, .slice none 0 0, .int .i64 0, .bool false])) := by rw [hw_]; exact F1.out.other (by omega)
      have FB : Hid (Below w.heap.size w W9) := by rw [hw_]; exact FB.out.setCell (by show w.heap.size ≤ g1; omega) _
      have FP : Hid (Ow W9 (w.heap.size + 2) g2 ps.length c2 (ps)) := by rw [hw_]; exact FP.out.other (p := ⟨g1, i * 13 + 11, none⟩) (by show _ ≠ g1; omega) _
      have FD : Hid (OwD W9 (w.heap.size + 2) g1 ds.length c1 (((((ds.take i |>.map heldD) ++ ds.drop i).set i (⟨p.sh, p.sp, p.pl, p.pu, true⟩ : Dk)).set i (⟨p.sh, p.sp, agn p.sh.lo, p.pu, true⟩ : Dk)).set i (⟨p.sh, p.sp, agn p.sh.lo, agn p.sh.up, true⟩ : Dk))) := by rw [hw_]; exact FD.out.set (k := 11) (q := (⟨p.sh, p.sp, agn p.sh.lo, agn p.sh.up, true⟩ : Dk)) HZ.out (by omega) rfl
      have HZ : Hid ((((((ds.take i |>.map heldD) ++ ds.drop i).set i (⟨p.sh, p.sp, p.pl, p.pu, true⟩ : Dk)).set i (⟨p.sh, p.sp, agn p.sh.lo, p.pu, true⟩ : Dk)).set i (⟨p.sh, p.sp, agn p.sh.lo, agn p.sh.up, true⟩ : Dk))[i]? = some (⟨p.sh, p.sp, agn p.sh.lo, agn p.sh.up, true⟩ : Dk)) := get_setD HZ.out
      clear hw_
      have FD : Hid (OwD W9 (w.heap.size + 2) g1 ds.length c1 ((ds.take (i + 1) |>.map heldD) ++ ds.drop (i + 1))) := by
        have q := FD.out
        rw [List.set_set, List.set_set] at q
        rw [← HE.out]
        exact q
      clear d3 d4 d5 e11 ef11
      go_wp2_with fail
      go_roundw
      case rel => exact ⟨i + 1, by simp, by omega, FG.out, F1.out, FD.out, FP.out, FB.out⟩
      case measure => simp [intOf]; omega
    · have ei : i = ds.length := by omega
      have FE : Hid (OwD wr (w.heap.size + 2) g1 ds.length c1 (ds.map heldD)) := by
        have q := FD.out
        rw [ei, held_all] at q
        exact q
      clear FD
      subst ei
      have FD : Hid (OwD wr (w.heap.size + 2) g1 ds.length c1 (ds.map heldD)) := FE.out
      go_wp2_with (first | (refine load_blk 37 _ Tryz.underlying37 (by kernel_rfl) FG.out rfl rfl rfl ?_) | (refine store_blk (rvs 0 0 h (.slice (some ⟨g1, 0, none⟩) ds.length c1) nx (.slice (some ⟨g2, 0, none⟩) ps.length c2) tk rc) 39 _ _ (by kernel_rfl) (by kernel_rfl) (by kernel_rfl) F1.out rfl rfl rfl rfl ?_))
      refine bodyPost_ret (v := .agg #[.int .i64 0, .int .i64 0, .int .i64 h.fl, .int .i64 h.gp, .int .i64 h.ln, .int .i64 h.rf, .int .i64 h.sp, .int .i64 h.pu, .int .i64 h.br, .int .i64 h.dr, .int .i64 h.lv, .int .i64 h.dO, .int .i64 h.ld, .int .i64 h.qu, .slice (some ⟨g1, 0, none⟩) ds.length c1, .int .i64 nx, .slice (some ⟨g2, 0, none⟩) ps.length c2, .int .i64 tk, .bool rc]) ((F1.out.row (rvs 0 0 h (.slice (some ⟨g1, 0, none⟩) ds.length c1) nx (.slice (some ⟨g2, 0, none⟩) ps.length c2) tk rc)).res _ Tryz.results6 Tryz.underlying39 (by kernel_rfl) rfl) rfl ?_
      have o1 := ((FD.out.row (b := w.heap.size + 1) (by have := FD.out.bl.1; omega) (rvs 0 0 h (.slice (some ⟨g1, 0, none⟩) ds.length c1) nx (.slice (some ⟨g2, 0, none⟩) ps.length c2) tk rc).toArray).base (show w.heap.size ≤ w.heap.size + 2 by omega)).own
      have o2 := ((FP.out.row (b := w.heap.size + 1) (by have := FP.out.bl.1; omega) (rvs 0 0 h (.slice (some ⟨g1, 0, none⟩) ds.length c1) nx (.slice (some ⟨g2, 0, none⟩) ps.length c2) tk rc).toArray).base (show w.heap.size ≤ w.heap.size + 2 by omega)).own
      have hq1 : (ds.map heldD).length = ds.length := List.length_map ..
      have hq2 : (ps).length = ps.length := rfl
      exact ⟨some ⟨g1, 0, none⟩, c1, some ⟨g2, 0, none⟩, c2, by rw [hq1, hq2], by rw [hq1]; exact o1, by rw [hq2]; exact o2, (fun j e1 e2 => by have a1 : g1 = j := Option.some.inj e1; have a2 : g2 = j := Option.some.inj e2; omega), below_row FB.out (by omega) _⟩
set_option maxRecDepth 20000 in
set_option maxHeartbeats 32000000 in
theorem specRestartGroup_false (h : Hs) (ds : List Dk) (gd dc : Nat) (nx : Int) (ps : List Pe) (gp pc : Nat) (tk : Int) (rc : Bool) (hf : Gr.fault ⟨h, ds, ⟨nx, ps⟩, tk, rc⟩ = 0) (hld : ds.length ≤ 1048576) (hlp : ps.length ≤ 1048576) (w : World) (hI : GI w gd gp ds ps) : Calls Tryz.prog 6 #[.agg #[.int .i64 h.fl, .int .i64 h.gp, .int .i64 h.ln, .int .i64 h.rf, .int .i64 h.sp, .int .i64 h.pu, .int .i64 h.br, .int .i64 h.dr, .int .i64 h.lv, .int .i64 h.dO, .int .i64 h.ld, .int .i64 h.qu, .slice (some ⟨gd, 0, none⟩) ds.length dc, .int .i64 nx, .slice (some ⟨gp, 0, none⟩) ps.length pc, .int .i64 tk, .bool rc], .bool false] w (isGrp w 0 0 h (ds.map heldD) nx (ps.map dropP) tk rc) := by
  have F0 : Hid (Blk ((w.alloc (.cells #[.int .i64 h.fl, .int .i64 h.gp, .int .i64 h.ln, .int .i64 h.rf, .int .i64 h.sp, .int .i64 h.pu, .int .i64 h.br, .int .i64 h.dr, .int .i64 h.lv, .int .i64 h.dO, .int .i64 h.ld, .int .i64 h.qu, .slice (some ⟨gd, 0, none⟩) ds.length dc, .int .i64 nx, .slice (some ⟨gp, 0, none⟩) ps.length pc, .int .i64 tk, .bool rc] 37)).alloc (.cells #[.int .i64 0, .int .i64 0, .int .i64 0, .int .i64 0, .int .i64 0, .int .i64 0, .int .i64 0, .int .i64 0, .int .i64 0, .int .i64 0, .int .i64 0, .int .i64 0, .int .i64 0, .int .i64 0, .slice none 0 0, .int .i64 0, .slice none 0 0, .int .i64 0, .bool false] 39)) w.heap.size (gvs h (.slice (some ⟨gd, 0, none⟩) ds.length dc) nx (.slice (some ⟨gp, 0, none⟩) ps.length pc) tk rc)) := (Blk.at_ w #[.int .i64 h.fl, .int .i64 h.gp, .int .i64 h.ln, .int .i64 h.rf, .int .i64 h.sp, .int .i64 h.pu, .int .i64 h.br, .int .i64 h.dr, .int .i64 h.lv, .int .i64 h.dO, .int .i64 h.ld, .int .i64 h.qu, .slice (some ⟨gd, 0, none⟩) ds.length dc, .int .i64 nx, .slice (some ⟨gp, 0, none⟩) ps.length pc, .int .i64 tk, .bool rc] _ _ rfl).alloc _
  have F1 : Hid (Blk ((w.alloc (.cells #[.int .i64 h.fl, .int .i64 h.gp, .int .i64 h.ln, .int .i64 h.rf, .int .i64 h.sp, .int .i64 h.pu, .int .i64 h.br, .int .i64 h.dr, .int .i64 h.lv, .int .i64 h.dO, .int .i64 h.ld, .int .i64 h.qu, .slice (some ⟨gd, 0, none⟩) ds.length dc, .int .i64 nx, .slice (some ⟨gp, 0, none⟩) ps.length pc, .int .i64 tk, .bool rc] 37)).alloc (.cells #[.int .i64 0, .int .i64 0, .int .i64 0, .int .i64 0, .int .i64 0, .int .i64 0, .int .i64 0, .int .i64 0, .int .i64 0, .int .i64 0, .int .i64 0, .int .i64 0, .int .i64 0, .int .i64 0, .slice none 0 0, .int .i64 0, .slice none 0 0, .int .i64 0, .bool false] 39)) (w.heap.size + 1) ([.int .i64 0, .int .i64 0, .int .i64 0, .int .i64 0, .int .i64 0, .int .i64 0, .int .i64 0, .int .i64 0, .int .i64 0, .int .i64 0, .int .i64 0, .int .i64 0, .int .i64 0, .int .i64 0, .slice none 0 0, .int .i64 0, .slice none 0 0, .int .i64 0, .bool false])) := Blk.at_ _ #[.int .i64 0, .int .i64 0, .int .i64 0, .int .i64 0, .int .i64 0, .int .i64 0, .int .i64 0, .int .i64 0, .int .i64 0, .int .i64 0, .int .i64 0, .int .i64 0, .int .i64 0, .int .i64 0, .slice none 0 0, .int .i64 0, .slice none 0 0, .int .i64 0, .bool false] _ _ (by simp)
  have FB : Hid (Below w.heap.size w ((w.alloc (.cells #[.int .i64 h.fl, .int .i64 h.gp, .int .i64 h.ln, .int .i64 h.rf, .int .i64 h.sp, .int .i64 h.pu, .int .i64 h.br, .int .i64 h.dr, .int .i64 h.lv, .int .i64 h.dO, .int .i64 h.ld, .int .i64 h.qu, .slice (some ⟨gd, 0, none⟩) ds.length dc, .int .i64 nx, .slice (some ⟨gp, 0, none⟩) ps.length pc, .int .i64 tk, .bool rc] 37)).alloc (.cells #[.int .i64 0, .int .i64 0, .int .i64 0, .int .i64 0, .int .i64 0, .int .i64 0, .int .i64 0, .int .i64 0, .int .i64 0, .int .i64 0, .int .i64 0, .int .i64 0, .int .i64 0, .int .i64 0, .slice none 0 0, .int .i64 0, .slice none 0 0, .int .i64 0, .bool false] 39))) := ((Below.refl _ _).alloc (Nat.le_refl _) _).alloc (by simp) _
  have FI : Hid (GI ((w.alloc (.cells #[.int .i64 h.fl, .int .i64 h.gp, .int .i64 h.ln, .int .i64 h.rf, .int .i64 h.sp, .int .i64 h.pu, .int .i64 h.br, .int .i64 h.dr, .int .i64 h.lv, .int .i64 h.dO, .int .i64 h.ld, .int .i64 h.qu, .slice (some ⟨gd, 0, none⟩) ds.length dc, .int .i64 nx, .slice (some ⟨gp, 0, none⟩) ps.length pc, .int .i64 tk, .bool rc] 37)).alloc (.cells #[.int .i64 0, .int .i64 0, .int .i64 0, .int .i64 0, .int .i64 0, .int .i64 0, .int .i64 0, .int .i64 0, .int .i64 0, .int .i64 0, .int .i64 0, .int .i64 0, .int .i64 0, .int .i64 0, .slice none 0 0, .int .i64 0, .slice none 0 0, .int .i64 0, .bool false] 39)) gd gp ds ps) := (hI.alloc _).alloc _
  have LI : Hid (gd < w.heap.size ∧ gp < w.heap.size) := ⟨hI.ld, hI.lp⟩
  obtain ⟨W0, hW0⟩ : ∃ W0, W0 = ((w.alloc (.cells #[.int .i64 h.fl, .int .i64 h.gp, .int .i64 h.ln, .int .i64 h.rf, .int .i64 h.sp, .int .i64 h.pu, .int .i64 h.br, .int .i64 h.dr, .int .i64 h.lv, .int .i64 h.dO, .int .i64 h.ld, .int .i64 h.qu, .slice (some ⟨gd, 0, none⟩) ds.length dc, .int .i64 nx, .slice (some ⟨gp, 0, none⟩) ps.length pc, .int .i64 tk, .bool rc] 37)).alloc (.cells #[.int .i64 0, .int .i64 0, .int .i64 0, .int .i64 0, .int .i64 0, .int .i64 0, .int .i64 0, .int .i64 0, .int .i64 0, .int .i64 0, .int .i64 0, .int .i64 0, .int .i64 0, .int .i64 0, .slice none 0 0, .int .i64 0, .slice none 0 0, .int .i64 0, .bool false] 39)) := ⟨_, rfl⟩
  rw [← hW0] at F0 F1 FB FI
  have HW0 : Hid (W0 = ((w.alloc (.cells #[.int .i64 h.fl, .int .i64 h.gp, .int .i64 h.ln, .int .i64 h.rf, .int .i64 h.sp, .int .i64 h.pu, .int .i64 h.br, .int .i64 h.dr, .int .i64 h.lv, .int .i64 h.dO, .int .i64 h.ld, .int .i64 h.qu, .slice (some ⟨gd, 0, none⟩) ds.length dc, .int .i64 nx, .slice (some ⟨gp, 0, none⟩) ps.length pc, .int .i64 tk, .bool rc] 37)).alloc (.cells #[.int .i64 0, .int .i64 0, .int .i64 0, .int .i64 0, .int .i64 0, .int .i64 0, .int .i64 0, .int .i64 0, .int .i64 0, .int .i64 0, .int .i64 0, .int .i64 0, .int .i64 0, .int .i64 0, .slice none 0 0, .int .i64 0, .slice none 0 0, .int .i64 0, .bool false] 39))) := hW0
  clear hW0 hI
  go_enter Tryz.func6, Tryz.ntmps6
  go_upto_region 1 with fail
  rw [← HW0.out]
  clear HW0
  go_upto_region 5 with (first | (refine load_blk 37 _ Tryz.underlying37 (by kernel_rfl) F0.out rfl rfl rfl ?_) | (go_at_call 18; refine (specGroupFault_any h ds (some ⟨gd, 0, none⟩) dc nx ps (some ⟨gp, 0, none⟩) pc tk rc hld hlp _ FI.out.din FI.out.pin).mono ?_; rw [hf]; rintro e w1 ⟨rfl, hb⟩; have F0 : Hid (Blk w1 w.heap.size (gvs h (.slice (some ⟨gd, 0, none⟩) ds.length dc) nx (.slice (some ⟨gp, 0, none⟩) ps.length pc) tk rc)) := F0.out.below hb F0.out.lt; have F1 : Hid (Blk w1 (w.heap.size + 1) ([.int .i64 0, .int .i64 0, .int .i64 0, .int .i64 0, .int .i64 0, .int .i64 0, .int .i64 0, .int .i64 0, .int .i64 0, .int .i64 0, .int .i64 0, .int .i64 0, .int .i64 0, .int .i64 0, .slice none 0 0, .int .i64 0, .slice none 0 0, .int .i64 0, .bool false])) := F1.out.below hb F1.out.lt; have FI : Hid (GI w1 gd gp ds ps) := FI.out.below hb FI.out.ld FI.out.lp; have FB : Hid (Below w.heap.size w w1) := FB.out.trans (hb.mono FB.out.size); clear hb) | (go_at_call 19; refine (l8Copy_any h ds gd dc nx ps gp pc tk rc hld hlp _ FI.out).mono ?_; rintro e w2 ⟨g1, c1, g2, c2, rfl, ho1, ho2, ne12, hb⟩; have q1 := F1.out.lt; have FD : Hid (OwD w2 (w.heap.size + 2) g1 ds.length c1 (ds)) := ho1.base (by omega); have FP : Hid (Ow w2 (w.heap.size + 2) g2 ps.length c2 (ps)) := ho2.base (by omega); have F0 : Hid (Blk w2 w.heap.size (gvs h (.slice (some ⟨gd, 0, none⟩) ds.length dc) nx (.slice (some ⟨gp, 0, none⟩) ps.length pc) tk rc)) := F0.out.below hb F0.out.lt; have F1 : Hid (Blk w2 (w.heap.size + 1) ([.int .i64 0, .int .i64 0, .int .i64 0, .int .i64 0, .int .i64 0, .int .i64 0, .int .i64 0, .int .i64 0, .int .i64 0, .int .i64 0, .int .i64 0, .int .i64 0, .int .i64 0, .int .i64 0, .slice none 0 0, .int .i64 0, .slice none 0 0, .int .i64 0, .bool false])) := F1.out.below hb F1.out.lt; have FI : Hid (GI w2 gd gp ds ps) := FI.out.below hb FI.out.ld FI.out.lp; have FB : Hid (Below w.heap.size w w2) := FB.out.trans (hb.mono FB.out.size); clear hb; clear ho1 ho2 q1) | (refine store_new (gvs h (.slice (some ⟨g1, 0, none⟩) ds.length c1) nx (.slice (some ⟨g2, 0, none⟩) ps.length c2) tk rc) 37 _ _ (by kernel_rfl) (by kernel_rfl) (by kernel_rfl) rfl rfl rfl rfl ?_))
  obtain ⟨gb, hgb⟩ : ∃ b, b = w2.heap.size := ⟨_, rfl⟩
  obtain ⟨W3, hW⟩ : ∃ W, W = w2.alloc (.cells (gvs h (.slice (some ⟨g1, 0, none⟩) ds.length c1) nx (.slice (some ⟨g2, 0, none⟩) ps.length c2) tk rc).toArray 37) := ⟨_, rfl⟩
  have lg := F1.out.lt
  rw [← hgb] at lg
  have lg1 := FD.out.bl.2
  rw [← hgb] at lg1
  have lg2 := FP.out.bl.2
  rw [← hgb] at lg2
  have F0 : Hid (Blk W3 w.heap.size (gvs h (.slice (some ⟨gd, 0, none⟩) ds.length dc) nx (.slice (some ⟨gp, 0, none⟩) ps.length pc) tk rc)) := by rw [hW]; exact F0.out.alloc _
  have F1 : Hid (Blk W3 (w.heap.size + 1) ([.int .i64 0, .int .i64 0, .int .i64 0, .int .i64 0, .int .i64 0, .int .i64 0, .int .i64 0, .int .i64 0, .int .i64 0, .int .i64 0, .int .i64 0, .int .i64 0, .int .i64 0, .int .i64 0, .slice none 0 0, .int .i64 0, .slice none 0 0, .int .i64 0, .bool false])) := by rw [hW]; exact F1.out.alloc _
  have FI : Hid (GI W3 gd gp ds ps) := by rw [hW]; exact FI.out.alloc _
  have FB : Hid (Below w.heap.size w W3) := by rw [hW]; exact FB.out.alloc FB.out.size _
  have FD : Hid (OwD W3 (w.heap.size + 2) g1 ds.length c1 (ds)) := by rw [hW]; exact FD.out.alloc _
  have FP : Hid (Ow W3 (w.heap.size + 2) g2 ps.length c2 (ps)) := by rw [hW]; exact FP.out.alloc _
  have FG : Hid (Blk W3 gb (gvs h (.slice (some ⟨g1, 0, none⟩) ds.length c1) nx (.slice (some ⟨g2, 0, none⟩) ps.length c2) tk rc)) := by rw [hW]; exact Blk.at_ w2 (gvs h (.slice (some ⟨g1, 0, none⟩) ds.length c1) nx (.slice (some ⟨g2, 0, none⟩) ps.length c2) tk rc).toArray _ _ hgb
  rw [← hW, ← hgb]
  clear hW hgb
  have lB1 := FD.out.bl.1
  have lB2 := FP.out.bl.1
  clear FI F0
  go_wp2_with fail
  go_loopw [7] (fun kk wr => ∃ i : Nat, kk = .int .i64 i ∧ i ≤ ds.length ∧ Blk wr gb (gvs h (.slice (some ⟨g1, 0, none⟩) ds.length c1) nx (.slice (some ⟨g2, 0, none⟩) ps.length c2) tk rc) ∧ Blk wr (w.heap.size + 1) ([.int .i64 0, .int .i64 0, .int .i64 0, .int .i64 0, .int .i64 0, .int .i64 0, .int .i64 0, .int .i64 0, .int .i64 0, .int .i64 0, .int .i64 0, .int .i64 0, .int .i64 0, .int .i64 0, .slice none 0 0, .int .i64 0, .slice none 0 0, .int .i64 0, .bool false]) ∧ OwD wr (w.heap.size + 2) g1 ds.length c1 ((ds.take i |>.map heldD) ++ ds.drop i) ∧ Ow wr (w.heap.size + 2) g2 ps.length c2 (ps) ∧ Below w.heap.size w wr) (fun kk _ => ds.length - (intOf kk).toNat)
  case atStart => exact ⟨0, rfl, by omega, FG.out, F1.out, by simpa using FD.out, FP.out, FB.out⟩
  case round =>
    obtain ⟨i, rfl, hi, hFG, hF1, hFD, hFP, hFB⟩ := hrel
    clear FG F1 FD FP FB
    have FG : Hid (Blk wr gb (gvs h (.slice (some ⟨g1, 0, none⟩) ds.length c1) nx (.slice (some ⟨g2, 0, none⟩) ps.length c2) tk rc)) := hFG
    have F1 : Hid (Blk wr (w.heap.size + 1) ([.int .i64 0, .int .i64 0, .int .i64 0, .int .i64 0, .int .i64 0, .int .i64 0, .int .i64 0, .int .i64 0, .int .i64 0, .int .i64 0, .int .i64 0, .int .i64 0, .int .i64 0, .int .i64 0, .slice none 0 0, .int .i64 0, .slice none 0 0, .int .i64 0, .bool false])) := hF1
    have FD : Hid (OwD wr (w.heap.size + 2) g1 ds.length c1 ((ds.take i |>.map heldD) ++ ds.drop i)) := hFD
    have FP : Hid (Ow wr (w.heap.size + 2) g2 ps.length c2 (ps)) := hFP
    have FB : Hid (Below w.heap.size w wr) := hFB
    clear hFG hF1 hFD hFP hFB
    have x12 := FG.out.c 12 _ rfl
    by_cases hlt : i < ds.length
    · obtain ⟨p, hp⟩ : ∃ p, ds[i]? = some p := ⟨_, List.getElem?_eq_getElem hlt⟩
      have HZ : Hid (((ds.take i |>.map heldD) ++ ds.drop i)[i]? = some p) := held_get hp
      have HE : Hid (((ds.take i |>.map heldD) ++ ds.drop i).set i (heldD p) = (ds.take (i + 1) |>.map heldD) ++ ds.drop (i + 1)) := held_set hp
      clear hp
      have d12 := (FD.out.d13 HZ.out).c12
      have df12 := FD.out.fz (i * 13 + 12)
      go_upto_region 10 with fail
      obtain ⟨W5, hw_⟩ : ∃ W, W = wr.setCell ⟨g1, i * 13 + 12, none⟩ (.bool true) := ⟨_, rfl⟩
      rw [← hw_]
      have FG : Hid (Blk W5 gb (gvs h (.slice (some ⟨g1, 0, none⟩) ds.length c1) nx (.slice (some ⟨g2, 0, none⟩) ps.length c2) tk rc)) := by rw [hw_]; exact FG.out.other (by omega)
      have F1 : Hid (Blk W5 (w.heap.size + 1) ([.int .i64 0, .int .i64 0, .int .i64 0, .int .i64 0, .int .i64 0, .int .i64 0, .int .i64 0, .int .i64 0, .int .i64 0, .int .i64 0, .int .i64 0, .int .i64 0, .int .i64 0, .int .i64 0, .slice none 0 0, .int .i64 0, .slice none 0 0, .int .i64 0, .bool false])) := by rw [hw_]; exact F1.out.other (by omega)
      have FB : Hid (Below w.heap.size w W5) := by rw [hw_]; exact FB.out.setCell (by show w.heap.size ≤ g1; omega) _
      have FP : Hid (Ow W5 (w.heap.size + 2) g2 ps.length c2 (ps)) := by rw [hw_]; exact FP.out.other (p := ⟨g1, i * 13 + 12, none⟩) (by show _ ≠ g1; omega) _
      have FD : Hid (OwD W5 (w.heap.size + 2) g1 ds.length c1 (((ds.take i |>.map heldD) ++ ds.drop i).set i (⟨p.sh, p.sp, p.pl, p.pu, true⟩ : Dk))) := by rw [hw_]; exact FD.out.set (k := 12) (q := (⟨p.sh, p.sp, p.pl, p.pu, true⟩ : Dk)) HZ.out (by omega) rfl
      have HZ : Hid ((((ds.take i |>.map heldD) ++ ds.drop i).set i (⟨p.sh, p.sp, p.pl, p.pu, true⟩ : Dk))[i]? = some (⟨p.sh, p.sp, p.pl, p.pu, true⟩ : Dk)) := get_setD HZ.out
      clear hw_
      clear d12 df12 x12
      have d0 := (FD.out.d13 HZ.out).c0
      have d1 := (FD.out.d13 HZ.out).c1
      have d2 := (FD.out.d13 HZ.out).c2
      go_upto_region 11 with (go_at_call 20; refine (l8Again_any p.sh.lo _).mono ?_; rintro e w6 ⟨rfl, hb⟩; have FG : Hid (Blk w6 gb (gvs h (.slice (some ⟨g1, 0, none⟩) ds.length c1) nx (.slice (some ⟨g2, 0, none⟩) ps.length c2) tk rc)) := FG.out.below hb FG.out.lt; have F1 : Hid (Blk w6 (w.heap.size + 1) ([.int .i64 0, .int .i64 0, .int .i64 0, .int .i64 0, .int .i64 0, .int .i64 0, .int .i64 0, .int .i64 0, .int .i64 0, .int .i64 0, .int .i64 0, .int .i64 0, .int .i64 0, .int .i64 0, .slice none 0 0, .int .i64 0, .slice none 0 0, .int .i64 0, .bool false])) := F1.out.below hb F1.out.lt; have FB : Hid (Below w.heap.size w w6) := FB.out.trans (hb.mono FB.out.size); have FP : Hid (Ow w6 (w.heap.size + 2) g2 ps.length c2 (ps)) := FP.out.below hb FP.out.bl.2; have FD : Hid (OwD w6 (w.heap.size + 2) g1 ds.length c1 (((ds.take i |>.map heldD) ++ ds.drop i).set i (⟨p.sh, p.sp, p.pl, p.pu, true⟩ : Dk))) := FD.out.below hb FD.out.bl.2; clear hb; have e10 := (FD.out.d13 HZ.out).c10; have ef10 := FD.out.fz (i * 13 + 10))
      obtain ⟨W7, hw_⟩ : ∃ W, W = w6.setCell ⟨g1, i * 13 + 10, none⟩ (.int .i64 (agn p.sh.lo)) := ⟨_, rfl⟩
      rw [← hw_]
      have FG : Hid (Blk W7 gb (gvs h (.slice (some ⟨g1, 0, none⟩) ds.length c1) nx (.slice (some ⟨g2, 0, none⟩) ps.length c2) tk rc)) := by rw [hw_]; exact FG.out.other (by omega)
      have F1 : Hid (Blk W7 (w.heap.size + 1) ([.int .i64 0, .int .i64 0, .int .i64 0, .int .i64 0, .int .i64 0, .int .i64 0, .int .i64 0, .int .i64 0, .int .i64 0, .int .i64 0, .int .i64 0, .int .i64 0, .int .i64 0, .int .i64 0, .slice none 0 0, .int .i64 0, .slice none 0 0, .int .i64 0, .bool false])) := by rw [hw_]; exact F1.out.other (by omega)
      have FB : Hid (Below w.heap.size w W7) := by rw [hw_]; exact FB.out.setCell (by show w.heap.size ≤ g1; omega) _
      have FP : Hid (Ow W7 (w.heap.size + 2) g2 ps.length c2 (ps)) := by rw [hw_]; exact FP.out.other (p := ⟨g1, i * 13 + 10, none⟩) (by show _ ≠ g1; omega) _
      have FD : Hid (OwD W7 (w.heap.size + 2) g1 ds.length c1 ((((ds.take i |>.map heldD) ++ ds.drop i).set i (⟨p.sh, p.sp, p.pl, p.pu, true⟩ : Dk)).set i (⟨p.sh, p.sp, agn p.sh.lo, p.pu, true⟩ : Dk))) := by rw [hw_]; exact FD.out.set (k := 10) (q := (⟨p.sh, p.sp, agn p.sh.lo, p.pu, true⟩ : Dk)) HZ.out (by omega) rfl
      have HZ : Hid (((((ds.take i |>.map heldD) ++ ds.drop i).set i (⟨p.sh, p.sp, p.pl, p.pu, true⟩ : Dk)).set i (⟨p.sh, p.sp, agn p.sh.lo, p.pu, true⟩ : Dk))[i]? = some (⟨p.sh, p.sp, agn p.sh.lo, p.pu, true⟩ : Dk)) := get_setD HZ.out
      clear hw_
      clear d0 d1 d2 e10 ef10
      have d3 := (FD.out.d13 HZ.out).c3
      have d4 := (FD.out.d13 HZ.out).c4
      have d5 := (FD.out.d13 HZ.out).c5
      go_upto_region 7 with (go_at_call 20; refine (l8Again_any p.sh.up _).mono ?_; rintro e w8 ⟨rfl, hb⟩; have FG : Hid (Blk w8 gb (gvs h (.slice (some ⟨g1, 0, none⟩) ds.length c1) nx (.slice (some ⟨g2, 0, none⟩) ps.length c2) tk rc)) := FG.out.below hb FG.out.lt; have F1 : Hid (Blk w8 (w.heap.size + 1) ([.int .i64 0, .int .i64 0, .int .i64 0, .int .i64 0, .int .i64 0, .int .i64 0, .int .i64 0, .int .i64 0, .int .i64 0, .int .i64 0, .int .i64 0, .int .i64 0, .int .i64 0, .int .i64 0, .slice none 0 0, .int .i64 0, .slice none 0 0, .int .i64 0, .bool false])) := F1.out.below hb F1.out.lt; have FB : Hid (Below w.heap.size w w8) := FB.out.trans (hb.mono FB.out.size); have FP : Hid (Ow w8 (w.heap.size + 2) g2 ps.length c2 (ps)) := FP.out.below hb FP.out.bl.2; have FD : Hid (OwD w8 (w.heap.size + 2) g1 ds.length c1 ((((ds.take i |>.map heldD) ++ ds.drop i).set i (⟨p.sh, p.sp, p.pl, p.pu, true⟩ : Dk)).set i (⟨p.sh, p.sp, agn p.sh.lo, p.pu, true⟩ : Dk))) := FD.out.below hb FD.out.bl.2; clear hb; have e11 := (FD.out.d13 HZ.out).c11; have ef11 := FD.out.fz (i * 13 + 11))
      obtain ⟨W9, hw_⟩ : ∃ W, W = w8.setCell ⟨g1, i * 13 + 11, none⟩ (.int .i64 (agn p.sh.up)) := ⟨_, rfl⟩
      rw [← hw_]
      have FG : Hid (Blk W9 gb (gvs h (.slice (some ⟨g1, 0, none⟩) ds.length c1) nx (.slice (some ⟨g2, 0, none⟩) ps.length c2) tk rc)) := by rw [hw_]; exact FG.out.other (by omega)
      have F1 : Hid (Blk W9 (w.heap.size + 1) ([.int .i64 0, .int .i64 0, .int .i64 0, .int .i64 0, .int .i64 0, .int .i64 0, .int .i64 0, .int .i64 0, .int .i64 0, .int .i64 0, .int .i64 0, .int .i64 0, .int .i64 0, .int .i64 0, .slice none 0 0, .int .i64 0, .slice none 0 0, .int .i64 0, .bool false])) := by rw [hw_]; exact F1.out.other (by omega)
      have FB : Hid (Below w.heap.size w W9) := by rw [hw_]; exact FB.out.setCell (by show w.heap.size ≤ g1; omega) _
      have FP : Hid (Ow W9 (w.heap.size + 2) g2 ps.length c2 (ps)) := by rw [hw_]; exact FP.out.other (p := ⟨g1, i * 13 + 11, none⟩) (by show _ ≠ g1; omega) _
      have FD : Hid (OwD W9 (w.heap.size + 2) g1 ds.length c1 (((((ds.take i |>.map heldD) ++ ds.drop i).set i (⟨p.sh, p.sp, p.pl, p.pu, true⟩ : Dk)).set i (⟨p.sh, p.sp, agn p.sh.lo, p.pu, true⟩ : Dk)).set i (⟨p.sh, p.sp, agn p.sh.lo, agn p.sh.up, true⟩ : Dk))) := by rw [hw_]; exact FD.out.set (k := 11) (q := (⟨p.sh, p.sp, agn p.sh.lo, agn p.sh.up, true⟩ : Dk)) HZ.out (by omega) rfl
      have HZ : Hid ((((((ds.take i |>.map heldD) ++ ds.drop i).set i (⟨p.sh, p.sp, p.pl, p.pu, true⟩ : Dk)).set i (⟨p.sh, p.sp, agn p.sh.lo, p.pu, true⟩ : Dk)).set i (⟨p.sh, p.sp, agn p.sh.lo, agn p.sh.up, true⟩ : Dk))[i]? = some (⟨p.sh, p.sp, agn p.sh.lo, agn p.sh.up, true⟩ : Dk)) := get_setD HZ.out
      clear hw_
      have FD : Hid (OwD W9 (w.heap.size + 2) g1 ds.length c1 ((ds.take (i + 1) |>.map heldD) ++ ds.drop (i + 1))) := by
        have q := FD.out
        rw [List.set_set, List.set_set] at q
        rw [← HE.out]
        exact q
      clear d3 d4 d5 e11 ef11
      go_wp2_with fail
      go_roundw
      case rel => exact ⟨i + 1, by simp, by omega, FG.out, F1.out, FD.out, FP.out, FB.out⟩
      case measure => simp [intOf]; omega
    · have ei : i = ds.length := by omega
      have FE : Hid (OwD wr (w.heap.size + 2) g1 ds.length c1 (ds.map heldD)) := by
        have q := FD.out
        rw [ei, held_all] at q
        exact q
      clear FD
      subst ei
      have FD : Hid (OwD wr (w.heap.size + 2) g1 ds.length c1 (ds.map heldD)) := FE.out
      go_upto_region 14 with (go_at_call 21; refine (l7Drop_anyO gb 13 nx (w.heap.size + 2) g2 ps.length c2 ps hlp (by omega) _ ⟨FG.out.c 13 _ rfl, FG.out.c 14 _ rfl⟩ FP.out).mono ?_; rintro e w5 ⟨rfl, ho, hg⟩; have FG : Hid (Blk w5 gb (gvs h (.slice (some ⟨g1, 0, none⟩) ds.length c1) nx (.slice (some ⟨g2, 0, none⟩) ps.length c2) tk rc)) := FG.out.grown hg (fun e => by have e2 := Option.some.inj e; omega); have F1 : Hid (Blk w5 (w.heap.size + 1) ([.int .i64 0, .int .i64 0, .int .i64 0, .int .i64 0, .int .i64 0, .int .i64 0, .int .i64 0, .int .i64 0, .int .i64 0, .int .i64 0, .int .i64 0, .int .i64 0, .int .i64 0, .int .i64 0, .slice none 0 0, .int .i64 0, .slice none 0 0, .int .i64 0, .bool false])) := F1.out.grown hg (fun e => by have e2 := Option.some.inj e; omega); have FD : Hid (OwD w5 (w.heap.size + 2) g1 ds.length c1 (ds.map heldD)) := FD.out.kept hg (fun e => by have e2 := Option.some.inj e; omega); have FB : Hid (Below w.heap.size w w5) := below_grown FB.out hg (fun j hj => by have e2 : g2 = j := Option.some.inj hj; omega) FB.out.size; have FP : Hid (Ow w5 (w.heap.size + 2) g2 ps.length c2 (ps.map dropP)) := ho; clear ho hg)
      clear x12
      go_wp2_with (first | (refine load_blk 37 _ Tryz.underlying37 (by kernel_rfl) FG.out rfl rfl rfl ?_) | (refine store_blk (rvs 0 0 h (.slice (some ⟨g1, 0, none⟩) ds.length c1) nx (.slice (some ⟨g2, 0, none⟩) ps.length c2) tk rc) 39 _ _ (by kernel_rfl) (by kernel_rfl) (by kernel_rfl) F1.out rfl rfl rfl rfl ?_))
      refine bodyPost_ret (v := .agg #[.int .i64 0, .int .i64 0, .int .i64 h.fl, .int .i64 h.gp, .int .i64 h.ln, .int .i64 h.rf, .int .i64 h.sp, .int .i64 h.pu, .int .i64 h.br, .int .i64 h.dr, .int .i64 h.lv, .int .i64 h.dO, .int .i64 h.ld, .int .i64 h.qu, .slice (some ⟨g1, 0, none⟩) ds.length c1, .int .i64 nx, .slice (some ⟨g2, 0, none⟩) ps.length c2, .int .i64 tk, .bool rc]) ((F1.out.row (rvs 0 0 h (.slice (some ⟨g1, 0, none⟩) ds.length c1) nx (.slice (some ⟨g2, 0, none⟩) ps.length c2) tk rc)).res _ Tryz.results6 Tryz.underlying39 (by kernel_rfl) rfl) rfl ?_
      have o1 := ((FD.out.row (b := w.heap.size + 1) (by have := FD.out.bl.1; omega) (rvs 0 0 h (.slice (some ⟨g1, 0, none⟩) ds.length c1) nx (.slice (some ⟨g2, 0, none⟩) ps.length c2) tk rc).toArray).base (show w.heap.size ≤ w.heap.size + 2 by omega)).own
      have o2 := ((FP.out.row (b := w.heap.size + 1) (by have := FP.out.bl.1; omega) (rvs 0 0 h (.slice (some ⟨g1, 0, none⟩) ds.length c1) nx (.slice (some ⟨g2, 0, none⟩) ps.length c2) tk rc).toArray).base (show w.heap.size ≤ w.heap.size + 2 by omega)).own
      have hq1 : (ds.map heldD).length = ds.length := List.length_map ..
      have hq2 : (ps.map dropP).length = ps.length := List.length_map ..
      exact ⟨some ⟨g1, 0, none⟩, c1, some ⟨g2, 0, none⟩, c2, by rw [hq1, hq2], by rw [hq1]; exact o1, by rw [hq2]; exact o2, (fun j e1 e2 => by have a1 : g1 = j := Option.some.inj e1; have a2 : g2 = j := Option.some.inj e2; omega), below_row FB.out (by omega) _⟩
end Go.Proofs.YtfmkanbhnpmpaaaGreat

/-
  The program's groups that are recalled or begin anew.
-/
namespace Go.Proofs.YtfmkanbhnpmpaaaGreat
open Go.RowKit Pl
set_option linter.unusedSimpArgs false
set_option linter.unusedVariables false

set_option maxRecDepth 20000 in
set_option maxHeartbeats 8000000 in
theorem phaseAt_any (c : Cs) (w : World) : Calls Tryz.prog 51 #[.agg #[.int .i64 c.pos, .int .i64 c.vel, .int .i64 c.door]] w fun e w' => e = .returned (.int .i64 (agn c)) ∧ Below w.heap.size w w' := by
  have HB : Hid (Below w.heap.size w (w.alloc (.cells #[.int .i64 c.pos, .int .i64 c.vel, .int .i64 c.door] 53))) := (Below.refl _ _).alloc (Nat.le_refl _) _
  by_cases k : c.door = 0
  · have hn : (c.door != 0) = false := by simpa using k
    have e : agn c = 0 := if_pos k
    rw [e]
    clear k e
    go_enter Tryz.func51, Tryz.ntmps51
    go_wp2_with fail
    go_ret
    exact ⟨rfl, HB.out⟩
  · have hn : (c.door != 0) = true := by simpa using k
    have e : agn c = 2 := if_neg k
    rw [e]
    clear k e
    go_enter Tryz.func51, Tryz.ntmps51
    go_wp2_with fail
    go_ret
    exact ⟨rfl, HB.out⟩
set_option maxRecDepth 20000 in
set_option maxHeartbeats 16000000 in
theorem heldDeck_any (p : Dk) (w : World) : Calls Tryz.prog 27 #[.agg #[.int .i64 p.sh.lo.pos, .int .i64 p.sh.lo.vel, .int .i64 p.sh.lo.door, .int .i64 p.sh.up.pos, .int .i64 p.sh.up.vel, .int .i64 p.sh.up.door, .int .i64 p.sp.l.lo, .int .i64 p.sp.l.hi, .int .i64 p.sp.u.lo, .int .i64 p.sp.u.hi, .int .i64 p.pl, .int .i64 p.pu, .bool p.hd]] w fun e w' => e = .returned (.agg #[.int .i64 (heldD p).sh.lo.pos, .int .i64 (heldD p).sh.lo.vel, .int .i64 (heldD p).sh.lo.door, .int .i64 (heldD p).sh.up.pos, .int .i64 (heldD p).sh.up.vel, .int .i64 (heldD p).sh.up.door, .int .i64 (heldD p).sp.l.lo, .int .i64 (heldD p).sp.l.hi, .int .i64 (heldD p).sp.u.lo, .int .i64 (heldD p).sp.u.hi, .int .i64 (heldD p).pl, .int .i64 (heldD p).pu, .bool (heldD p).hd]) ∧ Below w.heap.size w w' := by
  have F0 : Hid (Blk ((w.alloc (.cells #[.int .i64 p.sh.lo.pos, .int .i64 p.sh.lo.vel, .int .i64 p.sh.lo.door, .int .i64 p.sh.up.pos, .int .i64 p.sh.up.vel, .int .i64 p.sh.up.door, .int .i64 p.sp.l.lo, .int .i64 p.sp.l.hi, .int .i64 p.sp.u.lo, .int .i64 p.sp.u.hi, .int .i64 p.pl, .int .i64 p.pu, .bool p.hd] 61)).alloc (.cells #[.int .i64 0, .int .i64 0, .int .i64 0, .int .i64 0, .int .i64 0, .int .i64 0, .int .i64 0, .int .i64 0, .int .i64 0, .int .i64 0, .int .i64 0, .int .i64 0, .bool false] 61)) w.heap.size ([.int .i64 p.sh.lo.pos, .int .i64 p.sh.lo.vel, .int .i64 p.sh.lo.door, .int .i64 p.sh.up.pos, .int .i64 p.sh.up.vel, .int .i64 p.sh.up.door, .int .i64 p.sp.l.lo, .int .i64 p.sp.l.hi, .int .i64 p.sp.u.lo, .int .i64 p.sp.u.hi, .int .i64 p.pl, .int .i64 p.pu, .bool p.hd])) := (Blk.at_ w #[.int .i64 p.sh.lo.pos, .int .i64 p.sh.lo.vel, .int .i64 p.sh.lo.door, .int .i64 p.sh.up.pos, .int .i64 p.sh.up.vel, .int .i64 p.sh.up.door, .int .i64 p.sp.l.lo, .int .i64 p.sp.l.hi, .int .i64 p.sp.u.lo, .int .i64 p.sp.u.hi, .int .i64 p.pl, .int .i64 p.pu, .bool p.hd] _ _ rfl).alloc _
  have F1 : Hid (Blk ((w.alloc (.cells #[.int .i64 p.sh.lo.pos, .int .i64 p.sh.lo.vel, .int .i64 p.sh.lo.door, .int .i64 p.sh.up.pos, .int .i64 p.sh.up.vel, .int .i64 p.sh.up.door, .int .i64 p.sp.l.lo, .int .i64 p.sp.l.hi, .int .i64 p.sp.u.lo, .int .i64 p.sp.u.hi, .int .i64 p.pl, .int .i64 p.pu, .bool p.hd] 61)).alloc (.cells #[.int .i64 0, .int .i64 0, .int .i64 0, .int .i64 0, .int .i64 0, .int .i64 0, .int .i64 0, .int .i64 0, .int .i64 0, .int .i64 0, .int .i64 0, .int .i64 0, .bool false] 61)) (w.heap.size + 1) [.int .i64 0, .int .i64 0, .int .i64 0, .int .i64 0, .int .i64 0, .int .i64 0, .int .i64 0, .int .i64 0, .int .i64 0, .int .i64 0, .int .i64 0, .int .i64 0, .bool false]) := Blk.at_ _ #[.int .i64 0, .int .i64 0, .int .i64 0, .int .i64 0, .int .i64 0, .int .i64 0, .int .i64 0, .int .i64 0, .int .i64 0, .int .i64 0, .int .i64 0, .int .i64 0, .bool false] _ _ (by simp)
  have FB : Hid (Below w.heap.size w ((w.alloc (.cells #[.int .i64 p.sh.lo.pos, .int .i64 p.sh.lo.vel, .int .i64 p.sh.lo.door, .int .i64 p.sh.up.pos, .int .i64 p.sh.up.vel, .int .i64 p.sh.up.door, .int .i64 p.sp.l.lo, .int .i64 p.sp.l.hi, .int .i64 p.sp.u.lo, .int .i64 p.sp.u.hi, .int .i64 p.pl, .int .i64 p.pu, .bool p.hd] 61)).alloc (.cells #[.int .i64 0, .int .i64 0, .int .i64 0, .int .i64 0, .int .i64 0, .int .i64 0, .int .i64 0, .int .i64 0, .int .i64 0, .int .i64 0, .int .i64 0, .int .i64 0, .bool false] 61))) := ((Below.refl _ _).alloc (Nat.le_refl _) _).alloc (by simp) _
  obtain ⟨W0, hW0⟩ : ∃ W0, W0 = ((w.alloc (.cells #[.int .i64 p.sh.lo.pos, .int .i64 p.sh.lo.vel, .int .i64 p.sh.lo.door, .int .i64 p.sh.up.pos, .int .i64 p.sh.up.vel, .int .i64 p.sh.up.door, .int .i64 p.sp.l.lo, .int .i64 p.sp.l.hi, .int .i64 p.sp.u.lo, .int .i64 p.sp.u.hi, .int .i64 p.pl, .int .i64 p.pu, .bool p.hd] 61)).alloc (.cells #[.int .i64 0, .int .i64 0, .int .i64 0, .int .i64 0, .int .i64 0, .int .i64 0, .int .i64 0, .int .i64 0, .int .i64 0, .int .i64 0, .int .i64 0, .int .i64 0, .bool false] 61)) := ⟨_, rfl⟩
  rw [← hW0] at F0 F1 FB
  have HW0 : Hid (W0 = ((w.alloc (.cells #[.int .i64 p.sh.lo.pos, .int .i64 p.sh.lo.vel, .int .i64 p.sh.lo.door, .int .i64 p.sh.up.pos, .int .i64 p.sh.up.vel, .int .i64 p.sh.up.door, .int .i64 p.sp.l.lo, .int .i64 p.sp.l.hi, .int .i64 p.sp.u.lo, .int .i64 p.sp.u.hi, .int .i64 p.pl, .int .i64 p.pu, .bool p.hd] 61)).alloc (.cells #[.int .i64 0, .int .i64 0, .int .i64 0, .int .i64 0, .int .i64 0, .int .i64 0, .int .i64 0, .int .i64 0, .int .i64 0, .int .i64 0, .int .i64 0, .int .i64 0, .bool false] 61))) := hW0
  clear hW0
  go_enter Tryz.func27, Tryz.ntmps27
  go_upto_region 1 with fail
  rw [← HW0.out]
  clear HW0
  have k12 := F0.out.c 12 _ rfl
  have kf12 := F0.out.f 12 (Nat.le_of_ble_eq_true rfl)
  go_upto_region 2 with fail
  obtain ⟨W1, hw_⟩ : ∃ W, W = W0.setCell ⟨w.heap.size, 12, none⟩ (.bool true) := ⟨_, rfl⟩
  rw [← hw_]
  have F0 : Hid (Blk W1 w.heap.size ([.int .i64 p.sh.lo.pos, .int .i64 p.sh.lo.vel, .int .i64 p.sh.lo.door, .int .i64 p.sh.up.pos, .int .i64 p.sh.up.vel, .int .i64 p.sh.up.door, .int .i64 p.sp.l.lo, .int .i64 p.sp.l.hi, .int .i64 p.sp.u.lo, .int .i64 p.sp.u.hi, .int .i64 p.pl, .int .i64 p.pu, .bool true])) := by rw [hw_]; exact F0.out.set _ (Nat.le_of_ble_eq_true rfl)
  have F1 : Hid (Blk W1 (w.heap.size + 1) [.int .i64 0, .int .i64 0, .int .i64 0, .int .i64 0, .int .i64 0, .int .i64 0, .int .i64 0, .int .i64 0, .int .i64 0, .int .i64 0, .int .i64 0, .int .i64 0, .bool false]) := by rw [hw_]; exact F1.out.other (by omega)
  have FB : Hid (Below w.heap.size w W1) := by rw [hw_]; exact FB.out.setCell (Nat.le_refl _) _
  clear hw_ k12 kf12
  have F0 : Hid (Blk W1.drew w.heap.size ([.int .i64 p.sh.lo.pos, .int .i64 p.sh.lo.vel, .int .i64 p.sh.lo.door, .int .i64 p.sh.up.pos, .int .i64 p.sh.up.vel, .int .i64 p.sh.up.door, .int .i64 p.sp.l.lo, .int .i64 p.sp.l.hi, .int .i64 p.sp.u.lo, .int .i64 p.sp.u.hi, .int .i64 p.pl, .int .i64 p.pu, .bool true])) := F0.out.below (Below.refl _ _).drew F0.out.lt
  have F1 : Hid (Blk W1.drew (w.heap.size + 1) [.int .i64 0, .int .i64 0, .int .i64 0, .int .i64 0, .int .i64 0, .int .i64 0, .int .i64 0, .int .i64 0, .int .i64 0, .int .i64 0, .int .i64 0, .int .i64 0, .bool false]) := F1.out.below (Below.refl _ _).drew F1.out.lt
  have FB : Hid (Below w.heap.size w W1.drew) := FB.out.drew
  have x0 := F0.out.c 0 _ rfl
  have x1 := F0.out.c 1 _ rfl
  have x2 := F0.out.c 2 _ rfl
  have x3 := F0.out.c 3 _ rfl
  have x4 := F0.out.c 4 _ rfl
  have x5 := F0.out.c 5 _ rfl
  refine wp_region_held_drew (S := (fun w'' => w''.cell? ⟨w.heap.size, 0, none⟩ = some (.int .i64 p.sh.lo.pos) ∧ w''.cell? ⟨w.heap.size, 1, none⟩ = some (.int .i64 p.sh.lo.vel) ∧ w''.cell? ⟨w.heap.size, 2, none⟩ = some (.int .i64 p.sh.lo.door) ∧ w''.cell? ⟨w.heap.size, 3, none⟩ = some (.int .i64 p.sh.up.pos) ∧ w''.cell? ⟨w.heap.size, 4, none⟩ = some (.int .i64 p.sh.up.vel) ∧ w''.cell? ⟨w.heap.size, 5, none⟩ = some (.int .i64 p.sh.up.door))) (by kernel_rfl) (by (try dsimp only); first | exact ⟨x0, x1, x2, x3, x4, x5⟩ | go_keep) (fun hHeld => ?_)
  obtain ⟨v_1, hw1⟩ : ∃ v_1, v_1 = W1.drew := ⟨_, rfl⟩
  have F0 : Hid (Blk v_1 w.heap.size ([.int .i64 p.sh.lo.pos, .int .i64 p.sh.lo.vel, .int .i64 p.sh.lo.door, .int .i64 p.sh.up.pos, .int .i64 p.sh.up.vel, .int .i64 p.sh.up.door, .int .i64 p.sp.l.lo, .int .i64 p.sp.l.hi, .int .i64 p.sp.u.lo, .int .i64 p.sp.u.hi, .int .i64 p.pl, .int .i64 p.pu, .bool true])) := by rw [hw1]; exact F0.out
  have F1 : Hid (Blk v_1 (w.heap.size + 1) [.int .i64 0, .int .i64 0, .int .i64 0, .int .i64 0, .int .i64 0, .int .i64 0, .int .i64 0, .int .i64 0, .int .i64 0, .int .i64 0, .int .i64 0, .int .i64 0, .bool false]) := by rw [hw1]; exact F1.out
  have FB : Hid (Below w.heap.size w v_1) := by rw [hw1]; exact FB.out
  rw [← hw1] at hHeld ⊢
  clear hw1
  have x0 := F0.out.c 0 _ rfl
  have x1 := F0.out.c 1 _ rfl
  have x2 := F0.out.c 2 _ rfl
  have x3 := F0.out.c 3 _ rfl
  have x4 := F0.out.c 4 _ rfl
  have x5 := F0.out.c 5 _ rfl
  refine tkz 0 rfl ?_
  refine tkz 1 rfl ?_
  refine tkz 2 rfl ?_
  refine tkz 4 rfl ?_
  refine tkz 5 rfl ?_
  refine tkz 6 rfl ?_
  refine wpAnyH_ready (rs := [3]) (by kernel_rfl) (by simp) ?_
  refine (AllReadyH.cons rfl (fun K hK => ?_) AllReadyH.nil)
  go_simp
  refine (phaseAt_any p.sh.lo _).mono ?_
  rintro e v_2 ⟨rfl, hb⟩
  have F0 : Hid (Blk v_2 w.heap.size ([.int .i64 p.sh.lo.pos, .int .i64 p.sh.lo.vel, .int .i64 p.sh.lo.door, .int .i64 p.sh.up.pos, .int .i64 p.sh.up.vel, .int .i64 p.sh.up.door, .int .i64 p.sp.l.lo, .int .i64 p.sp.l.hi, .int .i64 p.sp.u.lo, .int .i64 p.sp.u.hi, .int .i64 p.pl, .int .i64 p.pu, .bool true])) := F0.out.below hb F0.out.lt
  have F1 : Hid (Blk v_2 (w.heap.size + 1) [.int .i64 0, .int .i64 0, .int .i64 0, .int .i64 0, .int .i64 0, .int .i64 0, .int .i64 0, .int .i64 0, .int .i64 0, .int .i64 0, .int .i64 0, .int .i64 0, .bool false]) := F1.out.below hb F1.out.lt
  have FB : Hid (Below w.heap.size w v_2) := FB.out.trans (hb.mono FB.out.size)
  clear hb
  have x0 := F0.out.c 0 _ rfl
  have x1 := F0.out.c 1 _ rfl
  have x2 := F0.out.c 2 _ rfl
  have x3 := F0.out.c 3 _ rfl
  have x4 := F0.out.c 4 _ rfl
  have x5 := F0.out.c 5 _ rfl
  try dsimp only
  refine hK.out _ _ (by (try dsimp only); first | exact ⟨x0, x1, x2, x3, x4, x5⟩ | go_keep) (fun hHeld => ?_)
  clear hK K
  try simp only [Act.put, List.getElem_toArray, List.getElem_cons_succ, List.getElem_cons_zero, List.setIfInBounds_toArray, List.set_cons_zero, List.set_cons_succ]
  refine tkz 8 rfl ?_
  refine wpAnyH_ready (rs := [7]) (by kernel_rfl) (by simp) ?_
  refine (AllReadyH.cons rfl (fun K hK => ?_) AllReadyH.nil)
  go_simp
  refine (phaseAt_any p.sh.up _).mono ?_
  rintro e v_3 ⟨rfl, hb⟩
  have F0 : Hid (Blk v_3 w.heap.size ([.int .i64 p.sh.lo.pos, .int .i64 p.sh.lo.vel, .int .i64 p.sh.lo.door, .int .i64 p.sh.up.pos, .int .i64 p.sh.up.vel, .int .i64 p.sh.up.door, .int .i64 p.sp.l.lo, .int .i64 p.sp.l.hi, .int .i64 p.sp.u.lo, .int .i64 p.sp.u.hi, .int .i64 p.pl, .int .i64 p.pu, .bool true])) := F0.out.below hb F0.out.lt
  have F1 : Hid (Blk v_3 (w.heap.size + 1) [.int .i64 0, .int .i64 0, .int .i64 0, .int .i64 0, .int .i64 0, .int .i64 0, .int .i64 0, .int .i64 0, .int .i64 0, .int .i64 0, .int .i64 0, .int .i64 0, .bool false]) := F1.out.below hb F1.out.lt
  have FB : Hid (Below w.heap.size w v_3) := FB.out.trans (hb.mono FB.out.size)
  clear hb
  have x0 := F0.out.c 0 _ rfl
  have x1 := F0.out.c 1 _ rfl
  have x2 := F0.out.c 2 _ rfl
  have x3 := F0.out.c 3 _ rfl
  have x4 := F0.out.c 4 _ rfl
  have x5 := F0.out.c 5 _ rfl
  try dsimp only
  refine hK.out _ _ (by (try dsimp only); first | exact ⟨x0, x1, x2, x3, x4, x5⟩ | go_keep) (fun hHeld => ?_)
  clear hK K
  try simp only [Act.put, List.getElem_toArray, List.getElem_cons_succ, List.getElem_cons_zero, List.setIfInBounds_toArray, List.set_cons_zero, List.set_cons_succ]
  refine wpAnyH_ready (rs := [9]) (by kernel_rfl) (by simp) ?_
  refine (AllReadyH.cons rfl (fun K hK => ?_) AllReadyH.nil)
  have k10 := F0.out.c 10 _ rfl
  have kf10 := F0.out.f 10 (Nat.le_of_ble_eq_true rfl)
  go_simp
  obtain ⟨v_4, hw2⟩ : ∃ v_4, v_4 = v_3.setCell ⟨w.heap.size, 10, none⟩ (.int .i64 (agn p.sh.lo)) := ⟨_, rfl⟩
  change K _ (v_3.setCell ⟨w.heap.size, 10, none⟩ (.int .i64 (agn p.sh.lo)))
  rw [← hw2]
  clear k10 kf10
  have F0 : Hid (Blk v_4 w.heap.size ([.int .i64 p.sh.lo.pos, .int .i64 p.sh.lo.vel, .int .i64 p.sh.lo.door, .int .i64 p.sh.up.pos, .int .i64 p.sh.up.vel, .int .i64 p.sh.up.door, .int .i64 p.sp.l.lo, .int .i64 p.sp.l.hi, .int .i64 p.sp.u.lo, .int .i64 p.sp.u.hi, .int .i64 (agn p.sh.lo), .int .i64 p.pu, .bool true])) := by rw [hw2]; exact F0.out.set _ (Nat.le_of_ble_eq_true rfl)
  have F1 : Hid (Blk v_4 (w.heap.size + 1) [.int .i64 0, .int .i64 0, .int .i64 0, .int .i64 0, .int .i64 0, .int .i64 0, .int .i64 0, .int .i64 0, .int .i64 0, .int .i64 0, .int .i64 0, .int .i64 0, .bool false]) := by rw [hw2]; exact F1.out.other (by omega)
  have FB : Hid (Below w.heap.size w v_4) := by rw [hw2]; exact FB.out.setCell (Nat.le_refl _) _
  clear hw2
  have x0 := F0.out.c 0 _ rfl
  have x1 := F0.out.c 1 _ rfl
  have x2 := F0.out.c 2 _ rfl
  have x3 := F0.out.c 3 _ rfl
  have x4 := F0.out.c 4 _ rfl
  have x5 := F0.out.c 5 _ rfl
  refine hK.out _ _ (by (try dsimp only); first | exact ⟨x0, x1, x2, x3, x4, x5⟩ | go_keep) (fun hHeld => ?_)
  clear hK K
  try simp only [Act.put, List.getElem_toArray, List.getElem_cons_succ, List.getElem_cons_zero, List.setIfInBounds_toArray, List.set_cons_zero, List.set_cons_succ]
  refine tkz 10 rfl ?_
  refine wpAnyH_ready (rs := [11]) (by kernel_rfl) (by simp) ?_
  refine (AllReadyH.cons rfl (fun K hK => ?_) AllReadyH.nil)
  have k11 := F0.out.c 11 _ rfl
  have kf11 := F0.out.f 11 (Nat.le_of_ble_eq_true rfl)
  go_simp
  obtain ⟨v_5, hw2⟩ : ∃ v_5, v_5 = v_4.setCell ⟨w.heap.size, 11, none⟩ (.int .i64 (agn p.sh.up)) := ⟨_, rfl⟩
  change K _ (v_4.setCell ⟨w.heap.size, 11, none⟩ (.int .i64 (agn p.sh.up)))
  rw [← hw2]
  clear k11 kf11
  have F0 : Hid (Blk v_5 w.heap.size ([.int .i64 p.sh.lo.pos, .int .i64 p.sh.lo.vel, .int .i64 p.sh.lo.door, .int .i64 p.sh.up.pos, .int .i64 p.sh.up.vel, .int .i64 p.sh.up.door, .int .i64 p.sp.l.lo, .int .i64 p.sp.l.hi, .int .i64 p.sp.u.lo, .int .i64 p.sp.u.hi, .int .i64 (agn p.sh.lo), .int .i64 (agn p.sh.up), .bool true])) := by rw [hw2]; exact F0.out.set _ (Nat.le_of_ble_eq_true rfl)
  have F1 : Hid (Blk v_5 (w.heap.size + 1) [.int .i64 0, .int .i64 0, .int .i64 0, .int .i64 0, .int .i64 0, .int .i64 0, .int .i64 0, .int .i64 0, .int .i64 0, .int .i64 0, .int .i64 0, .int .i64 0, .bool false]) := by rw [hw2]; exact F1.out.other (by omega)
  have FB : Hid (Below w.heap.size w v_5) := by rw [hw2]; exact FB.out.setCell (Nat.le_refl _) _
  clear hw2
  have x0 := F0.out.c 0 _ rfl
  have x1 := F0.out.c 1 _ rfl
  have x2 := F0.out.c 2 _ rfl
  have x3 := F0.out.c 3 _ rfl
  have x4 := F0.out.c 4 _ rfl
  have x5 := F0.out.c 5 _ rfl
  refine hK.out _ _ (by (try dsimp only); first | exact ⟨x0, x1, x2, x3, x4, x5⟩ | go_keep) (fun hHeld => ?_)
  clear hK K
  try simp only [Act.put, List.getElem_toArray, List.getElem_cons_succ, List.getElem_cons_zero, List.setIfInBounds_toArray, List.set_cons_zero, List.set_cons_succ]
  refine wpAnyH_done (by kernel_rfl) ?_ _
  go_wp2_with (first | (refine load_blk 61 _ Tryz.underlying61 (by kernel_rfl) F0.out rfl rfl rfl ?_) | (refine store_blk ([.int .i64 p.sh.lo.pos, .int .i64 p.sh.lo.vel, .int .i64 p.sh.lo.door, .int .i64 p.sh.up.pos, .int .i64 p.sh.up.vel, .int .i64 p.sh.up.door, .int .i64 p.sp.l.lo, .int .i64 p.sp.l.hi, .int .i64 p.sp.u.lo, .int .i64 p.sp.u.hi, .int .i64 (agn p.sh.lo), .int .i64 (agn p.sh.up), .bool true]) 61 _ _ (by kernel_rfl) (by kernel_rfl) (by kernel_rfl) F1.out rfl rfl rfl rfl ?_))
  exact bodyPost_ret (v := .agg #[.int .i64 p.sh.lo.pos, .int .i64 p.sh.lo.vel, .int .i64 p.sh.lo.door, .int .i64 p.sh.up.pos, .int .i64 p.sh.up.vel, .int .i64 p.sh.up.door, .int .i64 p.sp.l.lo, .int .i64 p.sp.l.hi, .int .i64 p.sp.u.lo, .int .i64 p.sp.u.hi, .int .i64 (agn p.sh.lo), .int .i64 (agn p.sh.up), .bool true]) ((F1.out.row ([.int .i64 p.sh.lo.pos, .int .i64 p.sh.lo.vel, .int .i64 p.sh.lo.door, .int .i64 p.sh.up.pos, .int .i64 p.sh.up.vel, .int .i64 p.sh.up.door, .int .i64 p.sp.l.lo, .int .i64 p.sp.l.hi, .int .i64 p.sp.u.lo, .int .i64 p.sp.u.hi, .int .i64 (agn p.sh.lo), .int .i64 (agn p.sh.up), .bool true])).res _ Tryz.results27 Tryz.underlying61 (by kernel_rfl) rfl) rfl ⟨rfl, below_row FB.out (by omega) _⟩
set_option maxRecDepth 20000 in
set_option maxHeartbeats 16000000 in
theorem implRecallGroup_no (h : Hs) (ds : List Dk) (gd dc : Nat) (nx : Int) (ps : List Pe) (gp pc : Nat) (tk : Int) (rc : Bool) (x : Bool) (hf : Gr.fault ⟨h, ds, ⟨nx, ps⟩, tk, rc⟩ ≠ 0) (hld : ds.length ≤ 1048576) (hlp : ps.length ≤ 1048576) (w : World) (hI : GI w gd gp ds ps) : Calls Tryz.prog 15 #[.agg #[.int .i64 h.fl, .int .i64 h.gp, .int .i64 h.ln, .int .i64 h.rf, .int .i64 h.sp, .int .i64 h.pu, .int .i64 h.br, .int .i64 h.dr, .int .i64 h.lv, .int .i64 h.dO, .int .i64 h.ld, .int .i64 h.qu, .slice (some ⟨gd, 0, none⟩) ds.length dc, .int .i64 nx, .slice (some ⟨gp, 0, none⟩) ps.length pc, .int .i64 tk, .bool rc], .bool x] w (isGrp w (Gr.fault ⟨h, ds, ⟨nx, ps⟩, tk, rc⟩) 0 zeroH [] 0 [] 0 false) := by
  have hn : (Gr.fault ⟨h, ds, ⟨nx, ps⟩, tk, rc⟩ != 0) = true := by simpa using hf
  clear hf
  have F0 : Hid (Blk ((w.alloc (.cells #[.int .i64 h.fl, .int .i64 h.gp, .int .i64 h.ln, .int .i64 h.rf, .int .i64 h.sp, .int .i64 h.pu, .int .i64 h.br, .int .i64 h.dr, .int .i64 h.lv, .int .i64 h.dO, .int .i64 h.ld, .int .i64 h.qu, .slice (some ⟨gd, 0, none⟩) ds.length dc, .int .i64 nx, .slice (some ⟨gp, 0, none⟩) ps.length pc, .int .i64 tk, .bool rc] 37)).alloc (.cells #[.int .i64 0, .int .i64 0, .int .i64 0, .int .i64 0, .int .i64 0, .int .i64 0, .int .i64 0, .int .i64 0, .int .i64 0, .int .i64 0, .int .i64 0, .int .i64 0, .int .i64 0, .int .i64 0, .slice none 0 0, .int .i64 0, .slice none 0 0, .int .i64 0, .bool false] 39)) w.heap.size (gvs h (.slice (some ⟨gd, 0, none⟩) ds.length dc) nx (.slice (some ⟨gp, 0, none⟩) ps.length pc) tk rc)) := (Blk.at_ w #[.int .i64 h.fl, .int .i64 h.gp, .int .i64 h.ln, .int .i64 h.rf, .int .i64 h.sp, .int .i64 h.pu, .int .i64 h.br, .int .i64 h.dr, .int .i64 h.lv, .int .i64 h.dO, .int .i64 h.ld, .int .i64 h.qu, .slice (some ⟨gd, 0, none⟩) ds.length dc, .int .i64 nx, .slice (some ⟨gp, 0, none⟩) ps.length pc, .int .i64 tk, .bool rc] _ _ rfl).alloc _
  have F1 : Hid (Blk ((w.alloc (.cells #[.int .i64 h.fl, .int .i64 h.gp, .int .i64 h.ln, .int .i64 h.rf, .int .i64 h.sp, .int .i64 h.pu, .int .i64 h.br, .int .i64 h.dr, .int .i64 h.lv, .int .i64 h.dO, .int .i64 h.ld, .int .i64 h.qu, .slice (some ⟨gd, 0, none⟩) ds.length dc, .int .i64 nx, .slice (some ⟨gp, 0, none⟩) ps.length pc, .int .i64 tk, .bool rc] 37)).alloc (.cells #[.int .i64 0, .int .i64 0, .int .i64 0, .int .i64 0, .int .i64 0, .int .i64 0, .int .i64 0, .int .i64 0, .int .i64 0, .int .i64 0, .int .i64 0, .int .i64 0, .int .i64 0, .int .i64 0, .slice none 0 0, .int .i64 0, .slice none 0 0, .int .i64 0, .bool false] 39)) (w.heap.size + 1) ([.int .i64 0, .int .i64 0, .int .i64 0, .int .i64 0, .int .i64 0, .int .i64 0, .int .i64 0, .int .i64 0, .int .i64 0, .int .i64 0, .int .i64 0, .int .i64 0, .int .i64 0, .int .i64 0, .slice none 0 0, .int .i64 0, .slice none 0 0, .int .i64 0, .bool false])) := Blk.at_ _ #[.int .i64 0, .int .i64 0, .int .i64 0, .int .i64 0, .int .i64 0, .int .i64 0, .int .i64 0, .int .i64 0, .int .i64 0, .int .i64 0, .int .i64 0, .int .i64 0, .int .i64 0, .int .i64 0, .slice none 0 0, .int .i64 0, .slice none 0 0, .int .i64 0, .bool false] _ _ (by simp)
  have FB : Hid (Below w.heap.size w ((w.alloc (.cells #[.int .i64 h.fl, .int .i64 h.gp, .int .i64 h.ln, .int .i64 h.rf, .int .i64 h.sp, .int .i64 h.pu, .int .i64 h.br, .int .i64 h.dr, .int .i64 h.lv, .int .i64 h.dO, .int .i64 h.ld, .int .i64 h.qu, .slice (some ⟨gd, 0, none⟩) ds.length dc, .int .i64 nx, .slice (some ⟨gp, 0, none⟩) ps.length pc, .int .i64 tk, .bool rc] 37)).alloc (.cells #[.int .i64 0, .int .i64 0, .int .i64 0, .int .i64 0, .int .i64 0, .int .i64 0, .int .i64 0, .int .i64 0, .int .i64 0, .int .i64 0, .int .i64 0, .int .i64 0, .int .i64 0, .int .i64 0, .slice none 0 0, .int .i64 0, .slice none 0 0, .int .i64 0, .bool false] 39))) := ((Below.refl _ _).alloc (Nat.le_refl _) _).alloc (by simp) _
  have FI : Hid (GI ((w.alloc (.cells #[.int .i64 h.fl, .int .i64 h.gp, .int .i64 h.ln, .int .i64 h.rf, .int .i64 h.sp, .int .i64 h.pu, .int .i64 h.br, .int .i64 h.dr, .int .i64 h.lv, .int .i64 h.dO, .int .i64 h.ld, .int .i64 h.qu, .slice (some ⟨gd, 0, none⟩) ds.length dc, .int .i64 nx, .slice (some ⟨gp, 0, none⟩) ps.length pc, .int .i64 tk, .bool rc] 37)).alloc (.cells #[.int .i64 0, .int .i64 0, .int .i64 0, .int .i64 0, .int .i64 0, .int .i64 0, .int .i64 0, .int .i64 0, .int .i64 0, .int .i64 0, .int .i64 0, .int .i64 0, .int .i64 0, .int .i64 0, .slice none 0 0, .int .i64 0, .slice none 0 0, .int .i64 0, .bool false] 39)) gd gp ds ps) := (hI.alloc _).alloc _
  have LI : Hid (gd < w.heap.size ∧ gp < w.heap.size) := ⟨hI.ld, hI.lp⟩
  obtain ⟨W0, hW0⟩ : ∃ W0, W0 = ((w.alloc (.cells #[.int .i64 h.fl, .int .i64 h.gp, .int .i64 h.ln, .int .i64 h.rf, .int .i64 h.sp, .int .i64 h.pu, .int .i64 h.br, .int .i64 h.dr, .int .i64 h.lv, .int .i64 h.dO, .int .i64 h.ld, .int .i64 h.qu, .slice (some ⟨gd, 0, none⟩) ds.length dc, .int .i64 nx, .slice (some ⟨gp, 0, none⟩) ps.length pc, .int .i64 tk, .bool rc] 37)).alloc (.cells #[.int .i64 0, .int .i64 0, .int .i64 0, .int .i64 0, .int .i64 0, .int .i64 0, .int .i64 0, .int .i64 0, .int .i64 0, .int .i64 0, .int .i64 0, .int .i64 0, .int .i64 0, .int .i64 0, .slice none 0 0, .int .i64 0, .slice none 0 0, .int .i64 0, .bool false] 39)) := ⟨_, rfl⟩
  rw [← hW0] at F0 F1 FB FI
  have HW0 : Hid (W0 = ((w.alloc (.cells #[.int .i64 h.fl, .int .i64 h.gp, .int .i64 h.ln, .int .i64 h.rf, .int .i64 h.sp, .int .i64 h.pu, .int .i64 h.br, .int .i64 h.dr, .int .i64 h.lv, .int .i64 h.dO, .int .i64 h.ld, .int .i64 h.qu, .slice (some ⟨gd, 0, none⟩) ds.length dc, .int .i64 nx, .slice (some ⟨gp, 0, none⟩) ps.length pc, .int .i64 tk, .bool rc] 37)).alloc (.cells #[.int .i64 0, .int .i64 0, .int .i64 0, .int .i64 0, .int .i64 0, .int .i64 0, .int .i64 0, .int .i64 0, .int .i64 0, .int .i64 0, .int .i64 0, .int .i64 0, .int .i64 0, .int .i64 0, .slice none 0 0, .int .i64 0, .slice none 0 0, .int .i64 0, .bool false] 39))) := hW0
  clear hW0 hI
  go_enter Tryz.func15, Tryz.ntmps15
  go_upto_region 1 with fail
  rw [← HW0.out]
  go_wp2_with (first | (refine load_blk 37 _ Tryz.underlying37 (by kernel_rfl) F0.out rfl rfl rfl ?_) | (go_at_call 25; refine (implGroupFault_any h ds (some ⟨gd, 0, none⟩) dc nx ps (some ⟨gp, 0, none⟩) pc tk rc hld hlp _ FI.out.din FI.out.pin).mono ?_; rintro e w1 ⟨rfl, hb⟩; have F0 : Hid (Blk w1 w.heap.size (gvs h (.slice (some ⟨gd, 0, none⟩) ds.length dc) nx (.slice (some ⟨gp, 0, none⟩) ps.length pc) tk rc)) := F0.out.below hb F0.out.lt; have F1 : Hid (Blk w1 (w.heap.size + 1) ([.int .i64 0, .int .i64 0, .int .i64 0, .int .i64 0, .int .i64 0, .int .i64 0, .int .i64 0, .int .i64 0, .int .i64 0, .int .i64 0, .int .i64 0, .int .i64 0, .int .i64 0, .int .i64 0, .slice none 0 0, .int .i64 0, .slice none 0 0, .int .i64 0, .bool false])) := F1.out.below hb F1.out.lt; have FI : Hid (GI w1 gd gp ds ps) := FI.out.below hb FI.out.ld FI.out.lp; have FB : Hid (Below w.heap.size w w1) := FB.out.trans (hb.mono FB.out.size); clear hb) | (refine store_blk ([.int .i64 (Gr.fault ⟨h, ds, ⟨nx, ps⟩, tk, rc⟩), .int .i64 0, .int .i64 0, .int .i64 0, .int .i64 0, .int .i64 0, .int .i64 0, .int .i64 0, .int .i64 0, .int .i64 0, .int .i64 0, .int .i64 0, .int .i64 0, .int .i64 0, .slice none 0 0, .int .i64 0, .slice none 0 0, .int .i64 0, .bool false]) 39 _ _ (by kernel_rfl) (by kernel_rfl) (by kernel_rfl) F1.out rfl rfl rfl rfl ?_))
  exact bodyPost_ret (v := .agg #[.int .i64 (Gr.fault ⟨h, ds, ⟨nx, ps⟩, tk, rc⟩), .int .i64 0, .int .i64 0, .int .i64 0, .int .i64 0, .int .i64 0, .int .i64 0, .int .i64 0, .int .i64 0, .int .i64 0, .int .i64 0, .int .i64 0, .int .i64 0, .int .i64 0, .slice none 0 0, .int .i64 0, .slice none 0 0, .int .i64 0, .bool false]) ((F1.out.row [.int .i64 (Gr.fault ⟨h, ds, ⟨nx, ps⟩, tk, rc⟩), .int .i64 0, .int .i64 0, .int .i64 0, .int .i64 0, .int .i64 0, .int .i64 0, .int .i64 0, .int .i64 0, .int .i64 0, .int .i64 0, .int .i64 0, .int .i64 0, .int .i64 0, .slice none 0 0, .int .i64 0, .slice none 0 0, .int .i64 0, .bool false]).res _ Tryz.results15 Tryz.underlying39 (by kernel_rfl) rfl) rfl (isGrp.no (below_row FB.out (by omega) _))
set_option maxRecDepth 20000 in
set_option maxHeartbeats 16000000 in
theorem implRestartGroup_no (h : Hs) (ds : List Dk) (gd dc : Nat) (nx : Int) (ps : List Pe) (gp pc : Nat) (tk : Int) (rc : Bool) (x : Bool) (hf : Gr.fault ⟨h, ds, ⟨nx, ps⟩, tk, rc⟩ ≠ 0) (hld : ds.length ≤ 1048576) (hlp : ps.length ≤ 1048576) (w : World) (hI : GI w gd gp ds ps) : Calls Tryz.prog 8 #[.agg #[.int .i64 h.fl, .int .i64 h.gp, .int .i64 h.ln, .int .i64 h.rf, .int .i64 h.sp, .int .i64 h.pu, .int .i64 h.br, .int .i64 h.dr, .int .i64 h.lv, .int .i64 h.dO, .int .i64 h.ld, .int .i64 h.qu, .slice (some ⟨gd, 0, none⟩) ds.length dc, .int .i64 nx, .slice (some ⟨gp, 0, none⟩) ps.length pc, .int .i64 tk, .bool rc], .bool x] w (isGrp w (Gr.fault ⟨h, ds, ⟨nx, ps⟩, tk, rc⟩) 0 zeroH [] 0 [] 0 false) := by
  have hn : (Gr.fault ⟨h, ds, ⟨nx, ps⟩, tk, rc⟩ != 0) = true := by simpa using hf
  clear hf
  have F0 : Hid (Blk ((w.alloc (.cells #[.int .i64 h.fl, .int .i64 h.gp, .int .i64 h.ln, .int .i64 h.rf, .int .i64 h.sp, .int .i64 h.pu, .int .i64 h.br, .int .i64 h.dr, .int .i64 h.lv, .int .i64 h.dO, .int .i64 h.ld, .int .i64 h.qu, .slice (some ⟨gd, 0, none⟩) ds.length dc, .int .i64 nx, .slice (some ⟨gp, 0, none⟩) ps.length pc, .int .i64 tk, .bool rc] 37)).alloc (.cells #[.int .i64 0, .int .i64 0, .int .i64 0, .int .i64 0, .int .i64 0, .int .i64 0, .int .i64 0, .int .i64 0, .int .i64 0, .int .i64 0, .int .i64 0, .int .i64 0, .int .i64 0, .int .i64 0, .slice none 0 0, .int .i64 0, .slice none 0 0, .int .i64 0, .bool false] 39)) w.heap.size (gvs h (.slice (some ⟨gd, 0, none⟩) ds.length dc) nx (.slice (some ⟨gp, 0, none⟩) ps.length pc) tk rc)) := (Blk.at_ w #[.int .i64 h.fl, .int .i64 h.gp, .int .i64 h.ln, .int .i64 h.rf, .int .i64 h.sp, .int .i64 h.pu, .int .i64 h.br, .int .i64 h.dr, .int .i64 h.lv, .int .i64 h.dO, .int .i64 h.ld, .int .i64 h.qu, .slice (some ⟨gd, 0, none⟩) ds.length dc, .int .i64 nx, .slice (some ⟨gp, 0, none⟩) ps.length pc, .int .i64 tk, .bool rc] _ _ rfl).alloc _
  have F1 : Hid (Blk ((w.alloc (.cells #[.int .i64 h.fl, .int .i64 h.gp, .int .i64 h.ln, .int .i64 h.rf, .int .i64 h.sp, .int .i64 h.pu, .int .i64 h.br, .int .i64 h.dr, .int .i64 h.lv, .int .i64 h.dO, .int .i64 h.ld, .int .i64 h.qu, .slice (some ⟨gd, 0, none⟩) ds.length dc, .int .i64 nx, .slice (some ⟨gp, 0, none⟩) ps.length pc, .int .i64 tk, .bool rc] 37)).alloc (.cells #[.int .i64 0, .int .i64 0, .int .i64 0, .int .i64 0, .int .i64 0, .int .i64 0, .int .i64 0, .int .i64 0, .int .i64 0, .int .i64 0, .int .i64 0, .int .i64 0, .int .i64 0, .int .i64 0, .slice none 0 0, .int .i64 0, .slice none 0 0, .int .i64 0, .bool false] 39)) (w.heap.size + 1) ([.int .i64 0, .int .i64 0, .int .i64 0, .int .i64 0, .int .i64 0, .int .i64 0, .int .i64 0, .int .i64 0, .int .i64 0, .int .i64 0, .int .i64 0, .int .i64 0, .int .i64 0, .int .i64 0, .slice none 0 0, .int .i64 0, .slice none 0 0, .int .i64 0, .bool false])) := Blk.at_ _ #[.int .i64 0, .int .i64 0, .int .i64 0, .int .i64 0, .int .i64 0, .int .i64 0, .int .i64 0, .int .i64 0, .int .i64 0, .int .i64 0, .int .i64 0, .int .i64 0, .int .i64 0, .int .i64 0, .slice none 0 0, .int .i64 0, .slice none 0 0, .int .i64 0, .bool false] _ _ (by simp)
  have FB : Hid (Below w.heap.size w ((w.alloc (.cells #[.int .i64 h.fl, .int .i64 h.gp, .int .i64 h.ln, .int .i64 h.rf, .int .i64 h.sp, .int .i64 h.pu, .int .i64 h.br, .int .i64 h.dr, .int .i64 h.lv, .int .i64 h.dO, .int .i64 h.ld, .int .i64 h.qu, .slice (some ⟨gd, 0, none⟩) ds.length dc, .int .i64 nx, .slice (some ⟨gp, 0, none⟩) ps.length pc, .int .i64 tk, .bool rc] 37)).alloc (.cells #[.int .i64 0, .int .i64 0, .int .i64 0, .int .i64 0, .int .i64 0, .int .i64 0, .int .i64 0, .int .i64 0, .int .i64 0, .int .i64 0, .int .i64 0, .int .i64 0, .int .i64 0, .int .i64 0, .slice none 0 0, .int .i64 0, .slice none 0 0, .int .i64 0, .bool false] 39))) := ((Below.refl _ _).alloc (Nat.le_refl _) _).alloc (by simp) _
  have FI : Hid (GI ((w.alloc (.cells #[.int .i64 h.fl, .int .i64 h.gp, .int .i64 h.ln, .int .i64 h.rf, .int .i64 h.sp, .int .i64 h.pu, .int .i64 h.br, .int .i64 h.dr, .int .i64 h.lv, .int .i64 h.dO, .int .i64 h.ld, .int .i64 h.qu, .slice (some ⟨gd, 0, none⟩) ds.length dc, .int .i64 nx, .slice (some ⟨gp, 0, none⟩) ps.length pc, .int .i64 tk, .bool rc] 37)).alloc (.cells #[.int .i64 0, .int .i64 0, .int .i64 0, .int .i64 0, .int .i64 0, .int .i64 0, .int .i64 0, .int .i64 0, .int .i64 0, .int .i64 0, .int .i64 0, .int .i64 0, .int .i64 0, .int .i64 0, .slice none 0 0, .int .i64 0, .slice none 0 0, .int .i64 0, .bool false] 39)) gd gp ds ps) := (hI.alloc _).alloc _
  have LI : Hid (gd < w.heap.size ∧ gp < w.heap.size) := ⟨hI.ld, hI.lp⟩
  obtain ⟨W0, hW0⟩ : ∃ W0, W0 = ((w.alloc (.cells #[.int .i64 h.fl, .int .i64 h.gp, .int .i64 h.ln, .int .i64 h.rf, .int .i64 h.sp, .int .i64 h.pu, .int .i64 h.br, .int .i64 h.dr, .int .i64 h.lv, .int .i64 h.dO, .int .i64 h.ld, .int .i64 h.qu, .slice (some ⟨gd, 0, none⟩) ds.length dc, .int .i64 nx, .slice (some ⟨gp, 0, none⟩) ps.length pc, .int .i64 tk, .bool rc] 37)).alloc (.cells #[.int .i64 0, .int .i64 0, .int .i64 0, .int .i64 0, .int .i64 0, .int .i64 0, .int .i64 0, .int .i64 0, .int .i64 0, .int .i64 0, .int .i64 0, .int .i64 0, .int .i64 0, .int .i64 0, .slice none 0 0, .int .i64 0, .slice none 0 0, .int .i64 0, .bool false] 39)) := ⟨_, rfl⟩
  rw [← hW0] at F0 F1 FB FI
  have HW0 : Hid (W0 = ((w.alloc (.cells #[.int .i64 h.fl, .int .i64 h.gp, .int .i64 h.ln, .int .i64 h.rf, .int .i64 h.sp, .int .i64 h.pu, .int .i64 h.br, .int .i64 h.dr, .int .i64 h.lv, .int .i64 h.dO, .int .i64 h.ld, .int .i64 h.qu, .slice (some ⟨gd, 0, none⟩) ds.length dc, .int .i64 nx, .slice (some ⟨gp, 0, none⟩) ps.length pc, .int .i64 tk, .bool rc] 37)).alloc (.cells #[.int .i64 0, .int .i64 0, .int .i64 0, .int .i64 0, .int .i64 0, .int .i64 0, .int .i64 0, .int .i64 0, .int .i64 0, .int .i64 0, .int .i64 0, .int .i64 0, .int .i64 0, .int .i64 0, .slice none 0 0, .int .i64 0, .slice none 0 0, .int .i64 0, .bool false] 39))) := hW0
  clear hW0 hI
  go_enter Tryz.func8, Tryz.ntmps8
  go_upto_region 1 with fail
  rw [← HW0.out]
  go_wp2_with (first | (refine load_blk 37 _ Tryz.underlying37 (by kernel_rfl) F0.out rfl rfl rfl ?_) | (go_at_call 25; refine (implGroupFault_any h ds (some ⟨gd, 0, none⟩) dc nx ps (some ⟨gp, 0, none⟩) pc tk rc hld hlp _ FI.out.din FI.out.pin).mono ?_; rintro e w1 ⟨rfl, hb⟩; have F0 : Hid (Blk w1 w.heap.size (gvs h (.slice (some ⟨gd, 0, none⟩) ds.length dc) nx (.slice (some ⟨gp, 0, none⟩) ps.length pc) tk rc)) := F0.out.below hb F0.out.lt; have F1 : Hid (Blk w1 (w.heap.size + 1) ([.int .i64 0, .int .i64 0, .int .i64 0, .int .i64 0, .int .i64 0, .int .i64 0, .int .i64 0, .int .i64 0, .int .i64 0, .int .i64 0, .int .i64 0, .int .i64 0, .int .i64 0, .int .i64 0, .slice none 0 0, .int .i64 0, .slice none 0 0, .int .i64 0, .bool false])) := F1.out.below hb F1.out.lt; have FI : Hid (GI w1 gd gp ds ps) := FI.out.below hb FI.out.ld FI.out.lp; have FB : Hid (Below w.heap.size w w1) := FB.out.trans (hb.mono FB.out.size); clear hb) | (refine store_blk ([.int .i64 (Gr.fault ⟨h, ds, ⟨nx, ps⟩, tk, rc⟩), .int .i64 0, .int .i64 0, .int .i64 0, .int .i64 0, .int .i64 0, .int .i64 0, .int .i64 0, .int .i64 0, .int .i64 0, .int .i64 0, .int .i64 0, .int .i64 0, .int .i64 0, .slice none 0 0, .int .i64 0, .slice none 0 0, .int .i64 0, .bool false]) 39 _ _ (by kernel_rfl) (by kernel_rfl) (by kernel_rfl) F1.out rfl rfl rfl rfl ?_))
  exact bodyPost_ret (v := .agg #[.int .i64 (Gr.fault ⟨h, ds, ⟨nx, ps⟩, tk, rc⟩), .int .i64 0, .int .i64 0, .int .i64 0, .int .i64 0, .int .i64 0, .int .i64 0, .int .i64 0, .int .i64 0, .int .i64 0, .int .i64 0, .int .i64 0, .int .i64 0, .int .i64 0, .slice none 0 0, .int .i64 0, .slice none 0 0, .int .i64 0, .bool false]) ((F1.out.row [.int .i64 (Gr.fault ⟨h, ds, ⟨nx, ps⟩, tk, rc⟩), .int .i64 0, .int .i64 0, .int .i64 0, .int .i64 0, .int .i64 0, .int .i64 0, .int .i64 0, .int .i64 0, .int .i64 0, .int .i64 0, .int .i64 0, .int .i64 0, .int .i64 0, .slice none 0 0, .int .i64 0, .slice none 0 0, .int .i64 0, .bool false]).res _ Tryz.results8 Tryz.underlying39 (by kernel_rfl) rfl) rfl (isGrp.no (below_row FB.out (by omega) _))
set_option maxRecDepth 20000 in
set_option maxHeartbeats 32000000 in
theorem implRecallGroup_true (h : Hs) (ds : List Dk) (gd dc : Nat) (nx : Int) (ps : List Pe) (gp pc : Nat) (tk : Int) (rc : Bool) (hf : Gr.fault ⟨h, ds, ⟨nx, ps⟩, tk, rc⟩ = 0) (hld : ds.length ≤ 1048576) (hlp : ps.length ≤ 1048576) (w : World) (hI : GI w gd gp ds ps) : Calls Tryz.prog 15 #[.agg #[.int .i64 h.fl, .int .i64 h.gp, .int .i64 h.ln, .int .i64 h.rf, .int .i64 h.sp, .int .i64 h.pu, .int .i64 h.br, .int .i64 h.dr, .int .i64 h.lv, .int .i64 h.dO, .int .i64 h.ld, .int .i64 h.qu, .slice (some ⟨gd, 0, none⟩) ds.length dc, .int .i64 nx, .slice (some ⟨gp, 0, none⟩) ps.length pc, .int .i64 tk, .bool rc], .bool true] w (isGrp w 0 0 h (ds) nx (ps.map dropP) tk true) := by
  have FI0 : Hid (GI w gd gp ds ps) := hI
  have HL : Hid (Hs.led h ⟨nx, ps⟩ = 0 ∧ Hs.dropV h ⟨nx, ps⟩ = ⟨nx, ps.map dropP⟩) := (by have q := (Gr.fault_parts hf).2.2.2.1; exact ⟨q, if_pos q⟩)
  have fld : ∀ W (v : Value) , (Instr.field 70 (.agg #[.int .i64 0, .int .i64 0, .int .i64 nx, v]) 2).run Tryz.prog W = .ok (.agg #[.int .i64 nx, v]) W := fun W v => by kernel_rfl
  have F0 : Hid (Blk ((w.alloc (.cells #[.int .i64 h.fl, .int .i64 h.gp, .int .i64 h.ln, .int .i64 h.rf, .int .i64 h.sp, .int .i64 h.pu, .int .i64 h.br, .int .i64 h.dr, .int .i64 h.lv, .int .i64 h.dO, .int .i64 h.ld, .int .i64 h.qu, .slice (some ⟨gd, 0, none⟩) ds.length dc, .int .i64 nx, .slice (some ⟨gp, 0, none⟩) ps.length pc, .int .i64 tk, .bool rc] 37)).alloc (.cells #[.int .i64 0, .int .i64 0, .int .i64 0, .int .i64 0, .int .i64 0, .int .i64 0, .int .i64 0, .int .i64 0, .int .i64 0, .int .i64 0, .int .i64 0, .int .i64 0, .int .i64 0, .int .i64 0, .slice none 0 0, .int .i64 0, .slice none 0 0, .int .i64 0, .bool false] 39)) w.heap.size (gvs h (.slice (some ⟨gd, 0, none⟩) ds.length dc) nx (.slice (some ⟨gp, 0, none⟩) ps.length pc) tk rc)) := (Blk.at_ w #[.int .i64 h.fl, .int .i64 h.gp, .int .i64 h.ln, .int .i64 h.rf, .int .i64 h.sp, .int .i64 h.pu, .int .i64 h.br, .int .i64 h.dr, .int .i64 h.lv, .int .i64 h.dO, .int .i64 h.ld, .int .i64 h.qu, .slice (some ⟨gd, 0, none⟩) ds.length dc, .int .i64 nx, .slice (some ⟨gp, 0, none⟩) ps.length pc, .int .i64 tk, .bool rc] _ _ rfl).alloc _
  have F1 : Hid (Blk ((w.alloc (.cells #[.int .i64 h.fl, .int .i64 h.gp, .int .i64 h.ln, .int .i64 h.rf, .int .i64 h.sp, .int .i64 h.pu, .int .i64 h.br, .int .i64 h.dr, .int .i64 h.lv, .int .i64 h.dO, .int .i64 h.ld, .int .i64 h.qu, .slice (some ⟨gd, 0, none⟩) ds.length dc, .int .i64 nx, .slice (some ⟨gp, 0, none⟩) ps.length pc, .int .i64 tk, .bool rc] 37)).alloc (.cells #[.int .i64 0, .int .i64 0, .int .i64 0, .int .i64 0, .int .i64 0, .int .i64 0, .int .i64 0, .int .i64 0, .int .i64 0, .int .i64 0, .int .i64 0, .int .i64 0, .int .i64 0, .int .i64 0, .slice none 0 0, .int .i64 0, .slice none 0 0, .int .i64 0, .bool false] 39)) (w.heap.size + 1) ([.int .i64 0, .int .i64 0, .int .i64 0, .int .i64 0, .int .i64 0, .int .i64 0, .int .i64 0, .int .i64 0, .int .i64 0, .int .i64 0, .int .i64 0, .int .i64 0, .int .i64 0, .int .i64 0, .slice none 0 0, .int .i64 0, .slice none 0 0, .int .i64 0, .bool false])) := Blk.at_ _ #[.int .i64 0, .int .i64 0, .int .i64 0, .int .i64 0, .int .i64 0, .int .i64 0, .int .i64 0, .int .i64 0, .int .i64 0, .int .i64 0, .int .i64 0, .int .i64 0, .int .i64 0, .int .i64 0, .slice none 0 0, .int .i64 0, .slice none 0 0, .int .i64 0, .bool false] _ _ (by simp)
  have FB : Hid (Below w.heap.size w ((w.alloc (.cells #[.int .i64 h.fl, .int .i64 h.gp, .int .i64 h.ln, .int .i64 h.rf, .int .i64 h.sp, .int .i64 h.pu, .int .i64 h.br, .int .i64 h.dr, .int .i64 h.lv, .int .i64 h.dO, .int .i64 h.ld, .int .i64 h.qu, .slice (some ⟨gd, 0, none⟩) ds.length dc, .int .i64 nx, .slice (some ⟨gp, 0, none⟩) ps.length pc, .int .i64 tk, .bool rc] 37)).alloc (.cells #[.int .i64 0, .int .i64 0, .int .i64 0, .int .i64 0, .int .i64 0, .int .i64 0, .int .i64 0, .int .i64 0, .int .i64 0, .int .i64 0, .int .i64 0, .int .i64 0, .int .i64 0, .int .i64 0, .slice none 0 0, .int .i64 0, .slice none 0 0, .int .i64 0, .bool false] 39))) := ((Below.refl _ _).alloc (Nat.le_refl _) _).alloc (by simp) _
  have FI : Hid (GI ((w.alloc (.cells #[.int .i64 h.fl, .int .i64 h.gp, .int .i64 h.ln, .int .i64 h.rf, .int .i64 h.sp, .int .i64 h.pu, .int .i64 h.br, .int .i64 h.dr, .int .i64 h.lv, .int .i64 h.dO, .int .i64 h.ld, .int .i64 h.qu, .slice (some ⟨gd, 0, none⟩) ds.length dc, .int .i64 nx, .slice (some ⟨gp, 0, none⟩) ps.length pc, .int .i64 tk, .bool rc] 37)).alloc (.cells #[.int .i64 0, .int .i64 0, .int .i64 0, .int .i64 0, .int .i64 0, .int .i64 0, .int .i64 0, .int .i64 0, .int .i64 0, .int .i64 0, .int .i64 0, .int .i64 0, .int .i64 0, .int .i64 0, .slice none 0 0, .int .i64 0, .slice none 0 0, .int .i64 0, .bool false] 39)) gd gp ds ps) := (hI.alloc _).alloc _
  have LI : Hid (gd < w.heap.size ∧ gp < w.heap.size) := ⟨hI.ld, hI.lp⟩
  obtain ⟨W0, hW0⟩ : ∃ W0, W0 = ((w.alloc (.cells #[.int .i64 h.fl, .int .i64 h.gp, .int .i64 h.ln, .int .i64 h.rf, .int .i64 h.sp, .int .i64 h.pu, .int .i64 h.br, .int .i64 h.dr, .int .i64 h.lv, .int .i64 h.dO, .int .i64 h.ld, .int .i64 h.qu, .slice (some ⟨gd, 0, none⟩) ds.length dc, .int .i64 nx, .slice (some ⟨gp, 0, none⟩) ps.length pc, .int .i64 tk, .bool rc] 37)).alloc (.cells #[.int .i64 0, .int .i64 0, .int .i64 0, .int .i64 0, .int .i64 0, .int .i64 0, .int .i64 0, .int .i64 0, .int .i64 0, .int .i64 0, .int .i64 0, .int .i64 0, .int .i64 0, .int .i64 0, .slice none 0 0, .int .i64 0, .slice none 0 0, .int .i64 0, .bool false] 39)) := ⟨_, rfl⟩
  rw [← hW0] at F0 F1 FB FI
  have HW0 : Hid (W0 = ((w.alloc (.cells #[.int .i64 h.fl, .int .i64 h.gp, .int .i64 h.ln, .int .i64 h.rf, .int .i64 h.sp, .int .i64 h.pu, .int .i64 h.br, .int .i64 h.dr, .int .i64 h.lv, .int .i64 h.dO, .int .i64 h.ld, .int .i64 h.qu, .slice (some ⟨gd, 0, none⟩) ds.length dc, .int .i64 nx, .slice (some ⟨gp, 0, none⟩) ps.length pc, .int .i64 tk, .bool rc] 37)).alloc (.cells #[.int .i64 0, .int .i64 0, .int .i64 0, .int .i64 0, .int .i64 0, .int .i64 0, .int .i64 0, .int .i64 0, .int .i64 0, .int .i64 0, .int .i64 0, .int .i64 0, .int .i64 0, .int .i64 0, .slice none 0 0, .int .i64 0, .slice none 0 0, .int .i64 0, .bool false] 39))) := hW0
  clear hW0 hI
  go_enter Tryz.func15, Tryz.ntmps15
  go_upto_region 1 with fail
  rw [← HW0.out]
  clear HW0
  go_upto_region 5 with (first | (refine load_blk 37 _ Tryz.underlying37 (by kernel_rfl) F0.out rfl rfl rfl ?_) | (go_at_call 25; refine (implGroupFault_any h ds (some ⟨gd, 0, none⟩) dc nx ps (some ⟨gp, 0, none⟩) pc tk rc hld hlp _ FI.out.din FI.out.pin).mono ?_; rw [hf]; rintro e w1 ⟨rfl, hb⟩; have F0 : Hid (Blk w1 w.heap.size (gvs h (.slice (some ⟨gd, 0, none⟩) ds.length dc) nx (.slice (some ⟨gp, 0, none⟩) ps.length pc) tk rc)) := F0.out.below hb F0.out.lt; have F1 : Hid (Blk w1 (w.heap.size + 1) ([.int .i64 0, .int .i64 0, .int .i64 0, .int .i64 0, .int .i64 0, .int .i64 0, .int .i64 0, .int .i64 0, .int .i64 0, .int .i64 0, .int .i64 0, .int .i64 0, .int .i64 0, .int .i64 0, .slice none 0 0, .int .i64 0, .slice none 0 0, .int .i64 0, .bool false])) := F1.out.below hb F1.out.lt; have FI : Hid (GI w1 gd gp ds ps) := FI.out.below hb FI.out.ld FI.out.lp; have FB : Hid (Below w.heap.size w w1) := FB.out.trans (hb.mono FB.out.size); clear hb) | (go_at_call 26; refine (copiedGroup_any h ds gd dc nx ps gp pc tk rc hld hlp _ FI.out).mono ?_; rintro e w2 ⟨g1, c1, g2, c2, rfl, ho1, ho2, ne12, hb⟩; have q1 := F1.out.lt; have FD : Hid (OwD w2 (w.heap.size + 2) g1 ds.length c1 (ds)) := ho1.base (by omega); have FP : Hid (Ow w2 (w.heap.size + 2) g2 ps.length c2 (ps)) := ho2.base (by omega); have F0 : Hid (Blk w2 w.heap.size (gvs h (.slice (some ⟨gd, 0, none⟩) ds.length dc) nx (.slice (some ⟨gp, 0, none⟩) ps.length pc) tk rc)) := F0.out.below hb F0.out.lt; have F1 : Hid (Blk w2 (w.heap.size + 1) ([.int .i64 0, .int .i64 0, .int .i64 0, .int .i64 0, .int .i64 0, .int .i64 0, .int .i64 0, .int .i64 0, .int .i64 0, .int .i64 0, .int .i64 0, .int .i64 0, .int .i64 0, .int .i64 0, .slice none 0 0, .int .i64 0, .slice none 0 0, .int .i64 0, .bool false])) := F1.out.below hb F1.out.lt; have FI : Hid (GI w2 gd gp ds ps) := FI.out.below hb FI.out.ld FI.out.lp; have FB : Hid (Below w.heap.size w w2) := FB.out.trans (hb.mono FB.out.size); clear hb; clear ho1 ho2 q1) | (refine store_new (gvs h (.slice (some ⟨g1, 0, none⟩) ds.length c1) nx (.slice (some ⟨g2, 0, none⟩) ps.length c2) tk rc) 37 _ _ (by kernel_rfl) (by kernel_rfl) (by kernel_rfl) rfl rfl rfl rfl ?_))
  obtain ⟨gb, hgb⟩ : ∃ b, b = w2.heap.size := ⟨_, rfl⟩
  obtain ⟨W3, hW⟩ : ∃ W, W = w2.alloc (.cells (gvs h (.slice (some ⟨g1, 0, none⟩) ds.length c1) nx (.slice (some ⟨g2, 0, none⟩) ps.length c2) tk rc).toArray 37) := ⟨_, rfl⟩
  have lg := F1.out.lt
  rw [← hgb] at lg
  have lg1 := FD.out.bl.2
  rw [← hgb] at lg1
  have lg2 := FP.out.bl.2
  rw [← hgb] at lg2
  have F0 : Hid (Blk W3 w.heap.size (gvs h (.slice (some ⟨gd, 0, none⟩) ds.length dc) nx (.slice (some ⟨gp, 0, none⟩) ps.length pc) tk rc)) := by rw [hW]; exact F0.out.alloc _
  have F1 : Hid (Blk W3 (w.heap.size + 1) ([.int .i64 0, .int .i64 0, .int .i64 0, .int .i64 0, .int .i64 0, .int .i64 0, .int .i64 0, .int .i64 0, .int .i64 0, .int .i64 0, .int .i64 0, .int .i64 0, .int .i64 0, .int .i64 0, .slice none 0 0, .int .i64 0, .slice none 0 0, .int .i64 0, .bool false])) := by rw [hW]; exact F1.out.alloc _
  have FI : Hid (GI W3 gd gp ds ps) := by rw [hW]; exact FI.out.alloc _
  have FB : Hid (Below w.heap.size w W3) := by rw [hW]; exact FB.out.alloc FB.out.size _
  have FD : Hid (OwD W3 (w.heap.size + 2) g1 ds.length c1 (ds)) := by rw [hW]; exact FD.out.alloc _
  have FP : Hid (Ow W3 (w.heap.size + 2) g2 ps.length c2 (ps)) := by rw [hW]; exact FP.out.alloc _
  have FG : Hid (Blk W3 gb (gvs h (.slice (some ⟨g1, 0, none⟩) ds.length c1) nx (.slice (some ⟨g2, 0, none⟩) ps.length c2) tk rc)) := by rw [hW]; exact Blk.at_ w2 (gvs h (.slice (some ⟨g1, 0, none⟩) ds.length c1) nx (.slice (some ⟨g2, 0, none⟩) ps.length c2) tk rc).toArray _ _ hgb
  rw [← hW, ← hgb]
  clear hW hgb
  have k16 := FG.out.c 16 _ rfl
  have kf16 := FG.out.f 16 (Nat.le_of_ble_eq_true rfl)
  have LB : Hid (w.heap.size + 2 ≤ g2) := FP.out.bl.1
  have lB := LB.out
  go_upto_region 6 with fail
  obtain ⟨W4, hw_⟩ : ∃ W, W = W3.setCell ⟨gb, 16, none⟩ (.bool true) := ⟨_, rfl⟩
  rw [← hw_]
  have FG : Hid (Blk W4 gb (gvs h (.slice (some ⟨g1, 0, none⟩) ds.length c1) nx (.slice (some ⟨g2, 0, none⟩) ps.length c2) tk true)) := by rw [hw_]; exact FG.out.set _ (Nat.le_of_ble_eq_true rfl)
  have F0 : Hid (Blk W4 w.heap.size (gvs h (.slice (some ⟨gd, 0, none⟩) ds.length dc) nx (.slice (some ⟨gp, 0, none⟩) ps.length pc) tk rc)) := by rw [hw_]; exact F0.out.other (by omega)
  have F1 : Hid (Blk W4 (w.heap.size + 1) ([.int .i64 0, .int .i64 0, .int .i64 0, .int .i64 0, .int .i64 0, .int .i64 0, .int .i64 0, .int .i64 0, .int .i64 0, .int .i64 0, .int .i64 0, .int .i64 0, .int .i64 0, .int .i64 0, .slice none 0 0, .int .i64 0, .slice none 0 0, .int .i64 0, .bool false])) := by rw [hw_]; exact F1.out.other (by omega)
  have FD : Hid (OwD W4 (w.heap.size + 2) g1 ds.length c1 (ds)) := by rw [hw_]; exact FD.out.other (p := ⟨gb, 16, none⟩) (by show _ ≠ gb; omega) _
  have FP : Hid (Ow W4 (w.heap.size + 2) g2 ps.length c2 (ps)) := by rw [hw_]; exact FP.out.other (p := ⟨gb, 16, none⟩) (by show _ ≠ gb; omega) _
  have FB : Hid (Below w.heap.size w W4) := by rw [hw_]; exact FB.out.setCell (by show w.heap.size ≤ gb; omega) _
  have FI : Hid (GI W4 gd gp ds ps) := FI0.out.below FB.out LI.out.1 LI.out.2
  clear hw_ k16 kf16
  have x0 := F0.out.c 0 _ rfl
  have x1 := F0.out.c 1 _ rfl
  have x2 := F0.out.c 2 _ rfl
  have x3 := F0.out.c 3 _ rfl
  have x4 := F0.out.c 4 _ rfl
  have x5 := F0.out.c 5 _ rfl
  have x6 := F0.out.c 6 _ rfl
  have x7 := F0.out.c 7 _ rfl
  have x8 := F0.out.c 8 _ rfl
  have x9 := F0.out.c 9 _ rfl
  have x10 := F0.out.c 10 _ rfl
  have x11 := F0.out.c 11 _ rfl
  have x12 := F0.out.c 12 _ rfl
  have x13 := F0.out.c 13 _ rfl
  have x14 := F0.out.c 14 _ rfl
  go_upto_region 8 with (go_at_call 28; refine ((implDropWaiting_any h ⟨nx, ps⟩ gp 0 pc hlp _ FI.out.lp FI.out.p).mono (fun _ _ q => q.s)).mono ?_; rw [HL.out.1, HL.out.2]; rintro e w7 ⟨pa3, pc3, rfl, ho, hb⟩; rw [List.length_map] at ho; have q1 := F1.out.lt; have n3 : Hid (∀ k, (Value.slice pa3 ps.length pc3).ownBlock = some k → gb < k) := (fun k hk => by have := (ho.lt k hk).1; have := FG.out.lt; omega); have FP : Hid (Own w7 (w.heap.size + 2) (.slice pa3 ps.length pc3) (ps.map dropP)) := Own.base ho (by omega); have FG : Hid (Blk w7 gb (gvs h (.slice (some ⟨g1, 0, none⟩) ds.length c1) nx (.slice (some ⟨g2, 0, none⟩) ps.length c2) tk true)) := FG.out.below hb FG.out.lt; have F1 : Hid (Blk w7 (w.heap.size + 1) ([.int .i64 0, .int .i64 0, .int .i64 0, .int .i64 0, .int .i64 0, .int .i64 0, .int .i64 0, .int .i64 0, .int .i64 0, .int .i64 0, .int .i64 0, .int .i64 0, .int .i64 0, .int .i64 0, .slice none 0 0, .int .i64 0, .slice none 0 0, .int .i64 0, .bool false])) := F1.out.below hb F1.out.lt; have FD : Hid (OwD w7 (w.heap.size + 2) g1 ds.length c1 (ds)) := FD.out.below hb FD.out.bl.2; have FB : Hid (Below w.heap.size w w7) := FB.out.trans (hb.mono FB.out.size); clear hb; clear ho q1; have k13 := FG.out.c 13 _ rfl; have k14 := FG.out.c 14 _ rfl; have kf13 := FG.out.f 13 (Nat.le_of_ble_eq_true rfl); have kf14 := FG.out.f 14 (Nat.le_of_ble_eq_true rfl))
  obtain ⟨W8, hw_⟩ : ∃ W, W = (w7.setCell ⟨gb, 13, none⟩ (.int .i64 nx)).setCell ⟨gb, 14, none⟩ (.slice pa3 ps.length pc3) := ⟨_, rfl⟩
  rw [← hw_]
  have FG : Hid (Blk W8 gb (gvs h (.slice (some ⟨g1, 0, none⟩) ds.length c1) nx (.slice pa3 ps.length pc3) tk true)) := by rw [hw_]; exact putB_set [.int .i64 nx, .slice pa3 ps.length pc3] _ 13 w7 FG.out (Nat.le_of_ble_eq_true rfl)
  have F1 : Hid (Blk W8 (w.heap.size + 1) ([.int .i64 0, .int .i64 0, .int .i64 0, .int .i64 0, .int .i64 0, .int .i64 0, .int .i64 0, .int .i64 0, .int .i64 0, .int .i64 0, .int .i64 0, .int .i64 0, .int .i64 0, .int .i64 0, .slice none 0 0, .int .i64 0, .slice none 0 0, .int .i64 0, .bool false])) := by rw [hw_]; exact Blk.putB_other (by omega) [.int .i64 nx, .slice pa3 ps.length pc3] 13 F1.out
  have FD : Hid (OwD W8 (w.heap.size + 2) g1 ds.length c1 (ds)) := by rw [hw_]; exact OwD.putB (by omega) [.int .i64 nx, .slice pa3 ps.length pc3] 13 _ FD.out
  have FP : Hid (Own W8 (w.heap.size + 2) (.slice pa3 ps.length pc3) (ps.map dropP)) := by rw [hw_]; exact (FP.out.other (p := ⟨gb, 13, none⟩) (fun e => by have := n3.out _ e; exact absurd this (by show ¬ gb < gb; omega)) _).other (p := ⟨gb, 14, none⟩) (fun e => by have := n3.out _ e; exact absurd this (by show ¬ gb < gb; omega)) _
  have FB : Hid (Below w.heap.size w W8) := by rw [hw_]; exact below_putB FB.out (by omega) [.int .i64 nx, .slice pa3 ps.length pc3] 13
  clear hw_ k13 k14 kf13 kf14 x0 x1 x2 x3 x4 x5 x6 x7 x8 x9 x10 x11 x12 x13 x14
  go_wp2_with (first | (refine load_blk 37 _ Tryz.underlying37 (by kernel_rfl) FG.out rfl rfl rfl ?_) | (refine store_blk (rvs 0 0 h (.slice (some ⟨g1, 0, none⟩) ds.length c1) nx (.slice pa3 ps.length pc3) tk true) 39 _ _ (by kernel_rfl) (by kernel_rfl) (by kernel_rfl) F1.out rfl rfl rfl rfl ?_))
  refine bodyPost_ret (v := .agg #[.int .i64 0, .int .i64 0, .int .i64 h.fl, .int .i64 h.gp, .int .i64 h.ln, .int .i64 h.rf, .int .i64 h.sp, .int .i64 h.pu, .int .i64 h.br, .int .i64 h.dr, .int .i64 h.lv, .int .i64 h.dO, .int .i64 h.ld, .int .i64 h.qu, .slice (some ⟨g1, 0, none⟩) ds.length c1, .int .i64 nx, .slice pa3 ps.length pc3, .int .i64 tk, .bool true]) ((F1.out.row (rvs 0 0 h (.slice (some ⟨g1, 0, none⟩) ds.length c1) nx (.slice pa3 ps.length pc3) tk true)).res _ Tryz.results15 Tryz.underlying39 (by kernel_rfl) rfl) rfl ?_
  have o1 := ((FD.out.row (b := w.heap.size + 1) (by have := FD.out.bl.1; omega) (rvs 0 0 h (.slice (some ⟨g1, 0, none⟩) ds.length c1) nx (.slice pa3 ps.length pc3) tk true).toArray).base (show w.heap.size ≤ w.heap.size + 2 by omega)).own
  have o2 := Own.base (FP.out.kept (grown_row (g := w.heap.size + 1) (rvs 0 0 h (.slice (some ⟨g1, 0, none⟩) ds.length c1) nx (.slice pa3 ps.length pc3) tk true).toArray) (Or.inr (fun e => by have := n3.out _ e; omega))) (show w.heap.size ≤ w.heap.size + 2 by omega)
  have hq1 : (ds).length = ds.length := rfl
  have hq2 : (ps.map dropP).length = ps.length := List.length_map ..
  exact ⟨some ⟨g1, 0, none⟩, c1, pa3, pc3, by rw [hq1, hq2], by rw [hq1]; exact o1, by rw [hq2]; exact o2, (fun j e1 e2 => by rw [hq2] at e2; have a1 : g1 = j := Option.some.inj e1; have a2 := n3.out _ e2; omega), below_row FB.out (by omega) _⟩
set_option maxRecDepth 20000 in
set_option maxHeartbeats 32000000 in
theorem implRecallGroup_false (h : Hs) (ds : List Dk) (gd dc : Nat) (nx : Int) (ps : List Pe) (gp pc : Nat) (tk : Int) (rc : Bool) (hf : Gr.fault ⟨h, ds, ⟨nx, ps⟩, tk, rc⟩ = 0) (hld : ds.length ≤ 1048576) (hlp : ps.length ≤ 1048576) (w : World) (hI : GI w gd gp ds ps) : Calls Tryz.prog 15 #[.agg #[.int .i64 h.fl, .int .i64 h.gp, .int .i64 h.ln, .int .i64 h.rf, .int .i64 h.sp, .int .i64 h.pu, .int .i64 h.br, .int .i64 h.dr, .int .i64 h.lv, .int .i64 h.dO, .int .i64 h.ld, .int .i64 h.qu, .slice (some ⟨gd, 0, none⟩) ds.length dc, .int .i64 nx, .slice (some ⟨gp, 0, none⟩) ps.length pc, .int .i64 tk, .bool rc], .bool false] w (isGrp w 0 0 h (ds) nx (ps) tk false) := by
  have F0 : Hid (Blk ((w.alloc (.cells #[.int .i64 h.fl, .int .i64 h.gp, .int .i64 h.ln, .int .i64 h.rf, .int .i64 h.sp, .int .i64 h.pu, .int .i64 h.br, .int .i64 h.dr, .int .i64 h.lv, .int .i64 h.dO, .int .i64 h.ld, .int .i64 h.qu, .slice (some ⟨gd, 0, none⟩) ds.length dc, .int .i64 nx, .slice (some ⟨gp, 0, none⟩) ps.length pc, .int .i64 tk, .bool rc] 37)).alloc (.cells #[.int .i64 0, .int .i64 0, .int .i64 0, .int .i64 0, .int .i64 0, .int .i64 0, .int .i64 0, .int .i64 0, .int .i64 0, .int .i64 0, .int .i64 0, .int .i64 0, .int .i64 0, .int .i64 0, .slice none 0 0, .int .i64 0, .slice none 0 0, .int .i64 0, .bool false] 39)) w.heap.size (gvs h (.slice (some ⟨gd, 0, none⟩) ds.length dc) nx (.slice (some ⟨gp, 0, none⟩) ps.length pc) tk rc)) := (Blk.at_ w #[.int .i64 h.fl, .int .i64 h.gp, .int .i64 h.ln, .int .i64 h.rf, .int .i64 h.sp, .int .i64 h.pu, .int .i64 h.br, .int .i64 h.dr, .int .i64 h.lv, .int .i64 h.dO, .int .i64 h.ld, .int .i64 h.qu, .slice (some ⟨gd, 0, none⟩) ds.length dc, .int .i64 nx, .slice (some ⟨gp, 0, none⟩) ps.length pc, .int .i64 tk, .bool rc] _ _ rfl).alloc _
  have F1 : Hid (Blk ((w.alloc (.cells #[.int .i64 h.fl, .int .i64 h.gp, .int .i64 h.ln, .int .i64 h.rf, .int .i64 h.sp, .int .i64 h.pu, .int .i64 h.br, .int .i64 h.dr, .int .i64 h.lv, .int .i64 h.dO, .int .i64 h.ld, .int .i64 h.qu, .slice (some ⟨gd, 0, none⟩) ds.length dc, .int .i64 nx, .slice (some ⟨gp, 0, none⟩) ps.length pc, .int .i64 tk, .bool rc] 37)).alloc (.cells #[.int .i64 0, .int .i64 0, .int .i64 0, .int .i64 0, .int .i64 0, .int .i64 0, .int .i64 0, .int .i64 0, .int .i64 0, .int .i64 0, .int .i64 0, .int .i64 0, .int .i64 0, .int .i64 0, .slice none 0 0, .int .i64 0, .slice none 0 0, .int .i64 0, .bool false] 39)) (w.heap.size + 1) ([.int .i64 0, .int .i64 0, .int .i64 0, .int .i64 0, .int .i64 0, .int .i64 0, .int .i64 0, .int .i64 0, .int .i64 0, .int .i64 0, .int .i64 0, .int .i64 0, .int .i64 0, .int .i64 0, .slice none 0 0, .int .i64 0, .slice none 0 0, .int .i64 0, .bool false])) := Blk.at_ _ #[.int .i64 0, .int .i64 0, .int .i64 0, .int .i64 0, .int .i64 0, .int .i64 0, .int .i64 0, .int .i64 0, .int .i64 0, .int .i64 0, .int .i64 0, .int .i64 0, .int .i64 0, .int .i64 0, .slice none 0 0, .int .i64 0, .slice none 0 0, .int .i64 0, .bool false] _ _ (by simp)
  have FB : Hid (Below w.heap.size w ((w.alloc (.cells #[.int .i64 h.fl, .int .i64 h.gp, .int .i64 h.ln, .int .i64 h.rf, .int .i64 h.sp, .int .i64 h.pu, .int .i64 h.br, .int .i64 h.dr, .int .i64 h.lv, .int .i64 h.dO, .int .i64 h.ld, .int .i64 h.qu, .slice (some ⟨gd, 0, none⟩) ds.length dc, .int .i64 nx, .slice (some ⟨gp, 0, none⟩) ps.length pc, .int .i64 tk, .bool rc] 37)).alloc (.cells #[.int .i64 0, .int .i64 0, .int .i64 0, .int .i64 0, .int .i64 0, .int .i64 0, .int .i64 0, .int .i64 0, .int .i64 0, .int .i64 0, .int .i64 0, .int .i64 0, .int .i64 0, .int .i64 0, .slice none 0 0, .int .i64 0, .slice none 0 0, .int .i64 0, .bool false] 39))) := ((Below.refl _ _).alloc (Nat.le_refl _) _).alloc (by simp) _
  have FI : Hid (GI ((w.alloc (.cells #[.int .i64 h.fl, .int .i64 h.gp, .int .i64 h.ln, .int .i64 h.rf, .int .i64 h.sp, .int .i64 h.pu, .int .i64 h.br, .int .i64 h.dr, .int .i64 h.lv, .int .i64 h.dO, .int .i64 h.ld, .int .i64 h.qu, .slice (some ⟨gd, 0, none⟩) ds.length dc, .int .i64 nx, .slice (some ⟨gp, 0, none⟩) ps.length pc, .int .i64 tk, .bool rc] 37)).alloc (.cells #[.int .i64 0, .int .i64 0, .int .i64 0, .int .i64 0, .int .i64 0, .int .i64 0, .int .i64 0, .int .i64 0, .int .i64 0, .int .i64 0, .int .i64 0, .int .i64 0, .int .i64 0, .int .i64 0, .slice none 0 0, .int .i64 0, .slice none 0 0, .int .i64 0, .bool false] 39)) gd gp ds ps) := (hI.alloc _).alloc _
  have LI : Hid (gd < w.heap.size ∧ gp < w.heap.size) := ⟨hI.ld, hI.lp⟩
  obtain ⟨W0, hW0⟩ : ∃ W0, W0 = ((w.alloc (.cells #[.int .i64 h.fl, .int .i64 h.gp, .int .i64 h.ln, .int .i64 h.rf, .int .i64 h.sp, .int .i64 h.pu, .int .i64 h.br, .int .i64 h.dr, .int .i64 h.lv, .int .i64 h.dO, .int .i64 h.ld, .int .i64 h.qu, .slice (some ⟨gd, 0, none⟩) ds.length dc, .int .i64 nx, .slice (some ⟨gp, 0, none⟩) ps.length pc, .int .i64 tk, .bool rc] 37)).alloc (.cells #[.int .i64 0, .int .i64 0, .int .i64 0, .int .i64 0, .int .i64 0, .int .i64 0, .int .i64 0, .int .i64 0, .int .i64 0, .int .i64 0, .int .i64 0, .int .i64 0, .int .i64 0, .int .i64 0, .slice none 0 0, .int .i64 0, .slice none 0 0, .int .i64 0, .bool false] 39)) := ⟨_, rfl⟩
  rw [← hW0] at F0 F1 FB FI
  have HW0 : Hid (W0 = ((w.alloc (.cells #[.int .i64 h.fl, .int .i64 h.gp, .int .i64 h.ln, .int .i64 h.rf, .int .i64 h.sp, .int .i64 h.pu, .int .i64 h.br, .int .i64 h.dr, .int .i64 h.lv, .int .i64 h.dO, .int .i64 h.ld, .int .i64 h.qu, .slice (some ⟨gd, 0, none⟩) ds.length dc, .int .i64 nx, .slice (some ⟨gp, 0, none⟩) ps.length pc, .int .i64 tk, .bool rc] 37)).alloc (.cells #[.int .i64 0, .int .i64 0, .int .i64 0, .int .i64 0, .int .i64 0, .int .i64 0, .int .i64 0, .int .i64 0, .int .i64 0, .int .i64 0, .int .i64 0, .int .i64 0, .int .i64 0, .int .i64 0, .slice none 0 0, .int .i64 0, .slice none 0 0, .int .i64 0, .bool false] 39))) := hW0
  clear hW0 hI
  go_enter Tryz.func15, Tryz.ntmps15
  go_upto_region 1 with fail
  rw [← HW0.out]
  clear HW0
  go_upto_region 5 with (first | (refine load_blk 37 _ Tryz.underlying37 (by kernel_rfl) F0.out rfl rfl rfl ?_) | (go_at_call 25; refine (implGroupFault_any h ds (some ⟨gd, 0, none⟩) dc nx ps (some ⟨gp, 0, none⟩) pc tk rc hld hlp _ FI.out.din FI.out.pin).mono ?_; rw [hf]; rintro e w1 ⟨rfl, hb⟩; have F0 : Hid (Blk w1 w.heap.size (gvs h (.slice (some ⟨gd, 0, none⟩) ds.length dc) nx (.slice (some ⟨gp, 0, none⟩) ps.length pc) tk rc)) := F0.out.below hb F0.out.lt; have F1 : Hid (Blk w1 (w.heap.size + 1) ([.int .i64 0, .int .i64 0, .int .i64 0, .int .i64 0, .int .i64 0, .int .i64 0, .int .i64 0, .int .i64 0, .int .i64 0, .int .i64 0, .int .i64 0, .int .i64 0, .int .i64 0, .int .i64 0, .slice none 0 0, .int .i64 0, .slice none 0 0, .int .i64 0, .bool false])) := F1.out.below hb F1.out.lt; have FI : Hid (GI w1 gd gp ds ps) := FI.out.below hb FI.out.ld FI.out.lp; have FB : Hid (Below w.heap.size w w1) := FB.out.trans (hb.mono FB.out.size); clear hb) | (go_at_call 26; refine (copiedGroup_any h ds gd dc nx ps gp pc tk rc hld hlp _ FI.out).mono ?_; rintro e w2 ⟨g1, c1, g2, c2, rfl, ho1, ho2, ne12, hb⟩; have q1 := F1.out.lt; have FD : Hid (OwD w2 (w.heap.size + 2) g1 ds.length c1 (ds)) := ho1.base (by omega); have FP : Hid (Ow w2 (w.heap.size + 2) g2 ps.length c2 (ps)) := ho2.base (by omega); have F0 : Hid (Blk w2 w.heap.size (gvs h (.slice (some ⟨gd, 0, none⟩) ds.length dc) nx (.slice (some ⟨gp, 0, none⟩) ps.length pc) tk rc)) := F0.out.below hb F0.out.lt; have F1 : Hid (Blk w2 (w.heap.size + 1) ([.int .i64 0, .int .i64 0, .int .i64 0, .int .i64 0, .int .i64 0, .int .i64 0, .int .i64 0, .int .i64 0, .int .i64 0, .int .i64 0, .int .i64 0, .int .i64 0, .int .i64 0, .int .i64 0, .slice none 0 0, .int .i64 0, .slice none 0 0, .int .i64 0, .bool false])) := F1.out.below hb F1.out.lt; have FI : Hid (GI w2 gd gp ds ps) := FI.out.below hb FI.out.ld FI.out.lp; have FB : Hid (Below w.heap.size w w2) := FB.out.trans (hb.mono FB.out.size); clear hb; clear ho1 ho2 q1) | (refine store_new (gvs h (.slice (some ⟨g1, 0, none⟩) ds.length c1) nx (.slice (some ⟨g2, 0, none⟩) ps.length c2) tk rc) 37 _ _ (by kernel_rfl) (by kernel_rfl) (by kernel_rfl) rfl rfl rfl rfl ?_))
  obtain ⟨gb, hgb⟩ : ∃ b, b = w2.heap.size := ⟨_, rfl⟩
  obtain ⟨W3, hW⟩ : ∃ W, W = w2.alloc (.cells (gvs h (.slice (some ⟨g1, 0, none⟩) ds.length c1) nx (.slice (some ⟨g2, 0, none⟩) ps.length c2) tk rc).toArray 37) := ⟨_, rfl⟩
  have lg := F1.out.lt
  rw [← hgb] at lg
  have lg1 := FD.out.bl.2
  rw [← hgb] at lg1
  have lg2 := FP.out.bl.2
  rw [← hgb] at lg2
  have F0 : Hid (Blk W3 w.heap.size (gvs h (.slice (some ⟨gd, 0, none⟩) ds.length dc) nx (.slice (some ⟨gp, 0, none⟩) ps.length pc) tk rc)) := by rw [hW]; exact F0.out.alloc _
  have F1 : Hid (Blk W3 (w.heap.size + 1) ([.int .i64 0, .int .i64 0, .int .i64 0, .int .i64 0, .int .i64 0, .int .i64 0, .int .i64 0, .int .i64 0, .int .i64 0, .int .i64 0, .int .i64 0, .int .i64 0, .int .i64 0, .int .i64 0, .slice none 0 0, .int .i64 0, .slice none 0 0, .int .i64 0, .bool false])) := by rw [hW]; exact F1.out.alloc _
  have FI : Hid (GI W3 gd gp ds ps) := by rw [hW]; exact FI.out.alloc _
  have FB : Hid (Below w.heap.size w W3) := by rw [hW]; exact FB.out.alloc FB.out.size _
  have FD : Hid (OwD W3 (w.heap.size + 2) g1 ds.length c1 (ds)) := by rw [hW]; exact FD.out.alloc _
  have FP : Hid (Ow W3 (w.heap.size + 2) g2 ps.length c2 (ps)) := by rw [hW]; exact FP.out.alloc _
  have FG : Hid (Blk W3 gb (gvs h (.slice (some ⟨g1, 0, none⟩) ds.length c1) nx (.slice (some ⟨g2, 0, none⟩) ps.length c2) tk rc)) := by rw [hW]; exact Blk.at_ w2 (gvs h (.slice (some ⟨g1, 0, none⟩) ds.length c1) nx (.slice (some ⟨g2, 0, none⟩) ps.length c2) tk rc).toArray _ _ hgb
  rw [← hW, ← hgb]
  clear hW hgb
  have k16 := FG.out.c 16 _ rfl
  have kf16 := FG.out.f 16 (Nat.le_of_ble_eq_true rfl)
  have LB : Hid (w.heap.size + 2 ≤ g2) := FP.out.bl.1
  have lB := LB.out
  go_upto_region 6 with fail
  obtain ⟨W4, hw_⟩ : ∃ W, W = W3.setCell ⟨gb, 16, none⟩ (.bool false) := ⟨_, rfl⟩
  rw [← hw_]
  have FG : Hid (Blk W4 gb (gvs h (.slice (some ⟨g1, 0, none⟩) ds.length c1) nx (.slice (some ⟨g2, 0, none⟩) ps.length c2) tk false)) := by rw [hw_]; exact FG.out.set _ (Nat.le_of_ble_eq_true rfl)
  have F0 : Hid (Blk W4 w.heap.size (gvs h (.slice (some ⟨gd, 0, none⟩) ds.length dc) nx (.slice (some ⟨gp, 0, none⟩) ps.length pc) tk rc)) := by rw [hw_]; exact F0.out.other (by omega)
  have F1 : Hid (Blk W4 (w.heap.size + 1) ([.int .i64 0, .int .i64 0, .int .i64 0, .int .i64 0, .int .i64 0, .int .i64 0, .int .i64 0, .int .i64 0, .int .i64 0, .int .i64 0, .int .i64 0, .int .i64 0, .int .i64 0, .int .i64 0, .slice none 0 0, .int .i64 0, .slice none 0 0, .int .i64 0, .bool false])) := by rw [hw_]; exact F1.out.other (by omega)
  have FD : Hid (OwD W4 (w.heap.size + 2) g1 ds.length c1 (ds)) := by rw [hw_]; exact FD.out.other (p := ⟨gb, 16, none⟩) (by show _ ≠ gb; omega) _
  have FP : Hid (Ow W4 (w.heap.size + 2) g2 ps.length c2 (ps)) := by rw [hw_]; exact FP.out.other (p := ⟨gb, 16, none⟩) (by show _ ≠ gb; omega) _
  have FB : Hid (Below w.heap.size w W4) := by rw [hw_]; exact FB.out.setCell (by show w.heap.size ≤ gb; omega) _
  clear hw_ k16 kf16 FI
  go_wp2_with (first | (refine load_blk 37 _ Tryz.underlying37 (by kernel_rfl) FG.out rfl rfl rfl ?_) | (refine store_blk (rvs 0 0 h (.slice (some ⟨g1, 0, none⟩) ds.length c1) nx (.slice (some ⟨g2, 0, none⟩) ps.length c2) tk false) 39 _ _ (by kernel_rfl) (by kernel_rfl) (by kernel_rfl) F1.out rfl rfl rfl rfl ?_))
  refine bodyPost_ret (v := .agg #[.int .i64 0, .int .i64 0, .int .i64 h.fl, .int .i64 h.gp, .int .i64 h.ln, .int .i64 h.rf, .int .i64 h.sp, .int .i64 h.pu, .int .i64 h.br, .int .i64 h.dr, .int .i64 h.lv, .int .i64 h.dO, .int .i64 h.ld, .int .i64 h.qu, .slice (some ⟨g1, 0, none⟩) ds.length c1, .int .i64 nx, .slice (some ⟨g2, 0, none⟩) ps.length c2, .int .i64 tk, .bool false]) ((F1.out.row (rvs 0 0 h (.slice (some ⟨g1, 0, none⟩) ds.length c1) nx (.slice (some ⟨g2, 0, none⟩) ps.length c2) tk false)).res _ Tryz.results15 Tryz.underlying39 (by kernel_rfl) rfl) rfl ?_
  have o1 := ((FD.out.row (b := w.heap.size + 1) (by have := FD.out.bl.1; omega) (rvs 0 0 h (.slice (some ⟨g1, 0, none⟩) ds.length c1) nx (.slice (some ⟨g2, 0, none⟩) ps.length c2) tk false).toArray).base (show w.heap.size ≤ w.heap.size + 2 by omega)).own
  have o2 := ((FP.out.row (b := w.heap.size + 1) (by have := FP.out.bl.1; omega) (rvs 0 0 h (.slice (some ⟨g1, 0, none⟩) ds.length c1) nx (.slice (some ⟨g2, 0, none⟩) ps.length c2) tk false).toArray).base (show w.heap.size ≤ w.heap.size + 2 by omega)).own
  have hq1 : (ds).length = ds.length := rfl
  have hq2 : (ps).length = ps.length := rfl
  exact ⟨some ⟨g1, 0, none⟩, c1, some ⟨g2, 0, none⟩, c2, by rw [hq1, hq2], by rw [hq1]; exact o1, by rw [hq2]; exact o2, (fun j e1 e2 => by have a1 : g1 = j := Option.some.inj e1; have a2 : g2 = j := Option.some.inj e2; omega), below_row FB.out (by omega) _⟩
set_option maxRecDepth 20000 in
set_option maxHeartbeats 32000000 in
theorem implRestartGroup_true (h : Hs) (ds : List Dk) (gd dc : Nat) (nx : Int) (ps : List Pe) (gp pc : Nat) (tk : Int) (rc : Bool) (hf : Gr.fault ⟨h, ds, ⟨nx, ps⟩, tk, rc⟩ = 0) (hld : ds.length ≤ 1048576) (hlp : ps.length ≤ 1048576) (w : World) (hI : GI w gd gp ds ps) : Calls Tryz.prog 8 #[.agg #[.int .i64 h.fl, .int .i64 h.gp, .int .i64 h.ln, .int .i64 h.rf, .int .i64 h.sp, .int .i64 h.pu, .int .i64 h.br, .int .i64 h.dr, .int .i64 h.lv, .int .i64 h.dO, .int .i64 h.ld, .int .i64 h.qu, .slice (some ⟨gd, 0, none⟩) ds.length dc, .int .i64 nx, .slice (some ⟨gp, 0, none⟩) ps.length pc, .int .i64 tk, .bool rc], .bool true] w (isGrp w 0 0 h (ds.map heldD) nx (ps) tk rc) := by
  have FI0 : Hid (GI w gd gp ds ps) := hI
  have F0 : Hid (Blk ((w.alloc (.cells #[.int .i64 h.fl, .int .i64 h.gp, .int .i64 h.ln, .int .i64 h.rf, .int .i64 h.sp, .int .i64 h.pu, .int .i64 h.br, .int .i64 h.dr, .int .i64 h.lv, .int .i64 h.dO, .int .i64 h.ld, .int .i64 h.qu, .slice (some ⟨gd, 0, none⟩) ds.length dc, .int .i64 nx, .slice (some ⟨gp, 0, none⟩) ps.length pc, .int .i64 tk, .bool rc] 37)).alloc (.cells #[.int .i64 0, .int .i64 0, .int .i64 0, .int .i64 0, .int .i64 0, .int .i64 0, .int .i64 0, .int .i64 0, .int .i64 0, .int .i64 0, .int .i64 0, .int .i64 0, .int .i64 0, .int .i64 0, .slice none 0 0, .int .i64 0, .slice none 0 0, .int .i64 0, .bool false] 39)) w.heap.size (gvs h (.slice (some ⟨gd, 0, none⟩) ds.length dc) nx (.slice (some ⟨gp, 0, none⟩) ps.length pc) tk rc)) := (Blk.at_ w #[.int .i64 h.fl, .int .i64 h.gp, .int .i64 h.ln, .int .i64 h.rf, .int .i64 h.sp, .int .i64 h.pu, .int .i64 h.br, .int .i64 h.dr, .int .i64 h.lv, .int .i64 h.dO, .int .i64 h.ld, .int .i64 h.qu, .slice (some ⟨gd, 0, none⟩) ds.length dc, .int .i64 nx, .slice (some ⟨gp, 0, none⟩) ps.length pc, .int .i64 tk, .bool rc] _ _ rfl).alloc _
  have F1 : Hid (Blk ((w.alloc (.cells #[.int .i64 h.fl, .int .i64 h.gp, .int .i64 h.ln, .int .i64 h.rf, .int .i64 h.sp, .int .i64 h.pu, .int .i64 h.br, .int .i64 h.dr, .int .i64 h.lv, .int .i64 h.dO, .int .i64 h.ld, .int .i64 h.qu, .slice (some ⟨gd, 0, none⟩) ds.length dc, .int .i64 nx, .slice (some ⟨gp, 0, none⟩) ps.length pc, .int .i64 tk, .bool rc] 37)).alloc (.cells #[.int .i64 0, .int .i64 0, .int .i64 0, .int .i64 0, .int .i64 0, .int .i64 0, .int .i64 0, .int .i64 0, .int .i64 0, .int .i64 0, .int .i64 0, .int .i64 0, .int .i64 0, .int .i64 0, .slice none 0 0, .int .i64 0, .slice none 0 0, .int .i64 0, .bool false] 39)) (w.heap.size + 1) ([.int .i64 0, .int .i64 0, .int .i64 0, .int .i64 0, .int .i64 0, .int .i64 0, .int .i64 0, .int .i64 0, .int .i64 0, .int .i64 0, .int .i64 0, .int .i64 0, .int .i64 0, .int .i64 0, .slice none 0 0, .int .i64 0, .slice none 0 0, .int .i64 0, .bool false])) := Blk.at_ _ #[.int .i64 0, .int .i64 0, .int .i64 0, .int .i64 0, .int .i64 0, .int .i64 0, .int .i64 0, .int .i64 0, .int .i64 0, .int .i64 0, .int .i64 0, .int .i64 0, .int .i64 0, .int .i64 0, .slice none 0 0, .int .i64 0, .slice none 0 0, .int .i64 0, .bool false] _ _ (by simp)
  have FB : Hid (Below w.heap.size w ((w.alloc (.cells #[.int .i64 h.fl, .int .i64 h.gp, .int .i64 h.ln, .int .i64 h.rf, .int .i64 h.sp, .int .i64 h.pu, .int .i64 h.br, .int .i64 h.dr, .int .i64 h.lv, .int .i64 h.dO, .int .i64 h.ld, .int .i64 h.qu, .slice (some ⟨gd, 0, none⟩) ds.length dc, .int .i64 nx, .slice (some ⟨gp, 0, none⟩) ps.length pc, .int .i64 tk, .bool rc] 37)).alloc (.cells #[.int .i64 0, .int .i64 0, .int .i64 0, .int .i64 0, .int .i64 0, .int .i64 0, .int .i64 0, .int .i64 0, .int .i64 0, .int .i64 0, .int .i64 0, .int .i64 0, .int .i64 0, .int .i64 0, .slice none 0 0, .int .i64 0, .slice none 0 0, .int .i64 0, .bool false] 39))) := ((Below.refl _ _).alloc (Nat.le_refl _) _).alloc (by simp) _
  have FI : Hid (GI ((w.alloc (.cells #[.int .i64 h.fl, .int .i64 h.gp, .int .i64 h.ln, .int .i64 h.rf, .int .i64 h.sp, .int .i64 h.pu, .int .i64 h.br, .int .i64 h.dr, .int .i64 h.lv, .int .i64 h.dO, .int .i64 h.ld, .int .i64 h.qu, .slice (some ⟨gd, 0, none⟩) ds.length dc, .int .i64 nx, .slice (some ⟨gp, 0, none⟩) ps.length pc, .int .i64 tk, .bool rc] 37)).alloc (.cells #[.int .i64 0, .int .i64 0, .int .i64 0, .int .i64 0, .int .i64 0, .int .i64 0, .int .i64 0, .int .i64 0, .int .i64 0, .int .i64 0, .int .i64 0, .int .i64 0, .int .i64 0, .int .i64 0, .slice none 0 0, .int .i64 0, .slice none 0 0, .int .i64 0, .bool false] 39)) gd gp ds ps) := (hI.alloc _).alloc _
  have LI : Hid (gd < w.heap.size ∧ gp < w.heap.size) := ⟨hI.ld, hI.lp⟩
  obtain ⟨W0, hW0⟩ : ∃ W0, W0 = ((w.alloc (.cells #[.int .i64 h.fl, .int .i64 h.gp, .int .i64 h.ln, .int .i64 h.rf, .int .i64 h.sp, .int .i64 h.pu, .int .i64 h.br, .int .i64 h.dr, .int .i64 h.lv, .int .i64 h.dO, .int .i64 h.ld, .int .i64 h.qu, .slice (some ⟨gd, 0, none⟩) ds.length dc, .int .i64 nx, .slice (some ⟨gp, 0, none⟩) ps.length pc, .int .i64 tk, .bool rc] 37)).alloc (.cells #[.int .i64 0, .int .i64 0, .int .i64 0, .int .i64 0, .int .i64 0, .int .i64 0, .int .i64 0, .int .i64 0, .int .i64 0, .int .i64 0, .int .i64 0, .int .i64 0, .int .i64 0, .int .i64 0, .slice none 0 0, .int .i64 0, .slice none 0 0, .int .i64 0, .bool false] 39)) := ⟨_, rfl⟩
  rw [← hW0] at F0 F1 FB FI
  have HW0 : Hid (W0 = ((w.alloc (.cells #[.int .i64 h.fl, .int .i64 h.gp, .int .i64 h.ln, .int .i64 h.rf, .int .i64 h.sp, .int .i64 h.pu, .int .i64 h.br, .int .i64 h.dr, .int .i64 h.lv, .int .i64 h.dO, .int .i64 h.ld, .int .i64 h.qu, .slice (some ⟨gd, 0, none⟩) ds.length dc, .int .i64 nx, .slice (some ⟨gp, 0, none⟩) ps.length pc, .int .i64 tk, .bool rc] 37)).alloc (.cells #[.int .i64 0, .int .i64 0, .int .i64 0, .int .i64 0, .int .i64 0, .int .i64 0, .int .i64 0, .int .i64 0, .int .i64 0, .int .i64 0, .int .i64 0, .int .i64 0, .int .i64 0, .int .i64 0, .slice none 0 0, .int .i64 0, .slice none 0 0, .int .i64 0, .bool false] 39))) := hW0
  clear hW0 hI
  go_enter Tryz.func8, Tryz.ntmps8
  go_upto_region 1 with fail
  rw [← HW0.out]
  clear HW0
  go_upto_region 5 with (first | (refine load_blk 37 _ Tryz.underlying37 (by kernel_rfl) F0.out rfl rfl rfl ?_) | (go_at_call 25; refine (implGroupFault_any h ds (some ⟨gd, 0, none⟩) dc nx ps (some ⟨gp, 0, none⟩) pc tk rc hld hlp _ FI.out.din FI.out.pin).mono ?_; rw [hf]; rintro e w1 ⟨rfl, hb⟩; have F0 : Hid (Blk w1 w.heap.size (gvs h (.slice (some ⟨gd, 0, none⟩) ds.length dc) nx (.slice (some ⟨gp, 0, none⟩) ps.length pc) tk rc)) := F0.out.below hb F0.out.lt; have F1 : Hid (Blk w1 (w.heap.size + 1) ([.int .i64 0, .int .i64 0, .int .i64 0, .int .i64 0, .int .i64 0, .int .i64 0, .int .i64 0, .int .i64 0, .int .i64 0, .int .i64 0, .int .i64 0, .int .i64 0, .int .i64 0, .int .i64 0, .slice none 0 0, .int .i64 0, .slice none 0 0, .int .i64 0, .bool false])) := F1.out.below hb F1.out.lt; have FI : Hid (GI w1 gd gp ds ps) := FI.out.below hb FI.out.ld FI.out.lp; have FB : Hid (Below w.heap.size w w1) := FB.out.trans (hb.mono FB.out.size); clear hb) | (go_at_call 26; refine (copiedGroup_any h ds gd dc nx ps gp pc tk rc hld hlp _ FI.out).mono ?_; rintro e w2 ⟨g1, c1, g2, c2, rfl, ho1, ho2, ne12, hb⟩; have q1 := F1.out.lt; have FD : Hid (OwD w2 (w.heap.size + 2) g1 ds.length c1 (ds)) := ho1.base (by omega); have FP : Hid (Ow w2 (w.heap.size + 2) g2 ps.length c2 (ps)) := ho2.base (by omega); have F0 : Hid (Blk w2 w.heap.size (gvs h (.slice (some ⟨gd, 0, none⟩) ds.length dc) nx (.slice (some ⟨gp, 0, none⟩) ps.length pc) tk rc)) := F0.out.below hb F0.out.lt; have F1 : Hid (Blk w2 (w.heap.size + 1) ([.int .i64 0, .int .i64 0, .int .i64 0, .int .i64 0, .int .i64 0, .int .i64 0, .int .i64 0, .int .i64 0, .int .i64 0, .int .i64 0, .int .i64 0, .int .i64 0, .int .i64 0, .int .i64 0, .slice none 0 0, .int .i64 0, .slice none 0 0, .int .i64 0, .bool false])) := F1.out.below hb F1.out.lt; have FI : Hid (GI w2 gd gp ds ps) := FI.out.below hb FI.out.ld FI.out.lp; have FB : Hid (Below w.heap.size w w2) := FB.out.trans (hb.mono FB.out.size); clear hb; clear ho1 ho2 q1) | (refine store_new (gvs h (.slice (some ⟨g1, 0, none⟩) ds.length c1) nx (.slice (some ⟨g2, 0, none⟩) ps.length c2) tk rc) 37 _ _ (by kernel_rfl) (by kernel_rfl) (by kernel_rfl) rfl rfl rfl rfl ?_))
  obtain ⟨gb, hgb⟩ : ∃ b, b = w2.heap.size := ⟨_, rfl⟩
  obtain ⟨W3, hW⟩ : ∃ W, W = w2.alloc (.cells (gvs h (.slice (some ⟨g1, 0, none⟩) ds.length c1) nx (.slice (some ⟨g2, 0, none⟩) ps.length c2) tk rc).toArray 37) := ⟨_, rfl⟩
  have lg := F1.out.lt
  rw [← hgb] at lg
  have lg1 := FD.out.bl.2
  rw [← hgb] at lg1
  have lg2 := FP.out.bl.2
  rw [← hgb] at lg2
  have F0 : Hid (Blk W3 w.heap.size (gvs h (.slice (some ⟨gd, 0, none⟩) ds.length dc) nx (.slice (some ⟨gp, 0, none⟩) ps.length pc) tk rc)) := by rw [hW]; exact F0.out.alloc _
  have F1 : Hid (Blk W3 (w.heap.size + 1) ([.int .i64 0, .int .i64 0, .int .i64 0, .int .i64 0, .int .i64 0, .int .i64 0, .int .i64 0, .int .i64 0, .int .i64 0, .int .i64 0, .int .i64 0, .int .i64 0, .int .i64 0, .int .i64 0, .slice none 0 0, .int .i64 0, .slice none 0 0, .int .i64 0, .bool false])) := by rw [hW]; exact F1.out.alloc _
  have FI : Hid (GI W3 gd gp ds ps) := by rw [hW]; exact FI.out.alloc _
  have FB : Hid (Below w.heap.size w W3) := by rw [hW]; exact FB.out.alloc FB.out.size _
  have FD : Hid (OwD W3 (w.heap.size + 2) g1 ds.length c1 (ds)) := by rw [hW]; exact FD.out.alloc _
  have FP : Hid (Ow W3 (w.heap.size + 2) g2 ps.length c2 (ps)) := by rw [hW]; exact FP.out.alloc _
  have FG : Hid (Blk W3 gb (gvs h (.slice (some ⟨g1, 0, none⟩) ds.length c1) nx (.slice (some ⟨g2, 0, none⟩) ps.length c2) tk rc)) := by rw [hW]; exact Blk.at_ w2 (gvs h (.slice (some ⟨g1, 0, none⟩) ds.length c1) nx (.slice (some ⟨g2, 0, none⟩) ps.length c2) tk rc).toArray _ _ hgb
  rw [← hW, ← hgb]
  clear hW hgb
  have lB1 := FD.out.bl.1
  have lB2 := FP.out.bl.1
  clear FI
  have x12 := FG.out.c 12 _ rfl
  go_wp2_with fail
  clear x12
  go_loopw [20] (fun kk wr => ∃ i : Nat, kk = .int .i64 i ∧ i ≤ ds.length ∧ Blk wr w.heap.size (gvs h (.slice (some ⟨gd, 0, none⟩) ds.length dc) nx (.slice (some ⟨gp, 0, none⟩) ps.length pc) tk rc) ∧ Blk wr gb (gvs h (.slice (some ⟨g1, 0, none⟩) ds.length c1) nx (.slice (some ⟨g2, 0, none⟩) ps.length c2) tk rc) ∧ Blk wr (w.heap.size + 1) ([.int .i64 0, .int .i64 0, .int .i64 0, .int .i64 0, .int .i64 0, .int .i64 0, .int .i64 0, .int .i64 0, .int .i64 0, .int .i64 0, .int .i64 0, .int .i64 0, .int .i64 0, .int .i64 0, .slice none 0 0, .int .i64 0, .slice none 0 0, .int .i64 0, .bool false]) ∧ OwD wr (w.heap.size + 2) g1 ds.length c1 ((ds.take i |>.map heldD) ++ ds.drop i) ∧ Ow wr (w.heap.size + 2) g2 ps.length c2 (ps) ∧ Below w.heap.size w wr) (fun kk _ => ds.length - (intOf kk).toNat)
  case atStart => exact ⟨0, rfl, by omega, F0.out, FG.out, F1.out, by simpa using FD.out, FP.out, FB.out⟩
  case round =>
    obtain ⟨i, rfl, hi, hF0, hFG, hF1, hFD, hFP, hFB⟩ := hrel
    clear F0 FG F1 FD FP FB
    have F0 : Hid (Blk wr w.heap.size (gvs h (.slice (some ⟨gd, 0, none⟩) ds.length dc) nx (.slice (some ⟨gp, 0, none⟩) ps.length pc) tk rc)) := hF0
    have FG : Hid (Blk wr gb (gvs h (.slice (some ⟨g1, 0, none⟩) ds.length c1) nx (.slice (some ⟨g2, 0, none⟩) ps.length c2) tk rc)) := hFG
    have F1 : Hid (Blk wr (w.heap.size + 1) ([.int .i64 0, .int .i64 0, .int .i64 0, .int .i64 0, .int .i64 0, .int .i64 0, .int .i64 0, .int .i64 0, .int .i64 0, .int .i64 0, .int .i64 0, .int .i64 0, .int .i64 0, .int .i64 0, .slice none 0 0, .int .i64 0, .slice none 0 0, .int .i64 0, .bool false])) := hF1
    have FD : Hid (OwD wr (w.heap.size + 2) g1 ds.length c1 ((ds.take i |>.map heldD) ++ ds.drop i)) := hFD
    have FP : Hid (Ow wr (w.heap.size + 2) g2 ps.length c2 (ps)) := hFP
    have FB : Hid (Below w.heap.size w wr) := hFB
    clear hF0 hFG hF1 hFD hFP hFB
    by_cases hlt : i < ds.length
    · obtain ⟨p, hp⟩ : ∃ p, ds[i]? = some p := ⟨_, List.getElem?_eq_getElem hlt⟩
      have HZ : Hid (((ds.take i |>.map heldD) ++ ds.drop i)[i]? = some p) := held_get hp
      have HE : Hid (((ds.take i |>.map heldD) ++ ds.drop i).set i (heldD p) = (ds.take (i + 1) |>.map heldD) ++ ds.drop (i + 1)) := held_set hp
      clear hp
      obtain ⟨d0, d1, d2, d3, d4, d5, d6, d7, d8, d9, d10, d11, d12⟩ := FD.out.d13 HZ.out
      go_upto_region 8 with (refine store_new ([.int .i64 p.sh.lo.pos, .int .i64 p.sh.lo.vel, .int .i64 p.sh.lo.door, .int .i64 p.sh.up.pos, .int .i64 p.sh.up.vel, .int .i64 p.sh.up.door, .int .i64 p.sp.l.lo, .int .i64 p.sp.l.hi, .int .i64 p.sp.u.lo, .int .i64 p.sp.u.hi, .int .i64 p.pl, .int .i64 p.pu, .bool p.hd]) 61 _ _ (by kernel_rfl) (by kernel_rfl) (by kernel_rfl) rfl rfl rfl rfl ?_)
      clear d0 d1 d2 d3 d4 d5 d6 d7 d8 d9 d10 d11 d12
      obtain ⟨sb, hsb⟩ : ∃ b, b = wr.heap.size := ⟨_, rfl⟩
      obtain ⟨W5, hW⟩ : ∃ W, W = wr.alloc (.cells ([.int .i64 p.sh.lo.pos, .int .i64 p.sh.lo.vel, .int .i64 p.sh.lo.door, .int .i64 p.sh.up.pos, .int .i64 p.sh.up.vel, .int .i64 p.sh.up.door, .int .i64 p.sp.l.lo, .int .i64 p.sp.l.hi, .int .i64 p.sp.u.lo, .int .i64 p.sp.u.hi, .int .i64 p.pl, .int .i64 p.pu, .bool p.hd]).toArray 61) := ⟨_, rfl⟩
      have ls0 := FG.out.lt
      rw [← hsb] at ls0
      have ls1 := FD.out.bl.2
      rw [← hsb] at ls1
      have ls2 := FP.out.bl.2
      rw [← hsb] at ls2
      have F0 : Hid (Blk W5 w.heap.size (gvs h (.slice (some ⟨gd, 0, none⟩) ds.length dc) nx (.slice (some ⟨gp, 0, none⟩) ps.length pc) tk rc)) := by rw [hW]; exact F0.out.alloc _
      have F1 : Hid (Blk W5 (w.heap.size + 1) ([.int .i64 0, .int .i64 0, .int .i64 0, .int .i64 0, .int .i64 0, .int .i64 0, .int .i64 0, .int .i64 0, .int .i64 0, .int .i64 0, .int .i64 0, .int .i64 0, .int .i64 0, .int .i64 0, .slice none 0 0, .int .i64 0, .slice none 0 0, .int .i64 0, .bool false])) := by rw [hW]; exact F1.out.alloc _
      have FB : Hid (Below w.heap.size w W5) := by rw [hW]; exact FB.out.alloc FB.out.size _
      have FG : Hid (Blk W5 gb (gvs h (.slice (some ⟨g1, 0, none⟩) ds.length c1) nx (.slice (some ⟨g2, 0, none⟩) ps.length c2) tk rc)) := by rw [hW]; exact FG.out.alloc _
      have FD : Hid (OwD W5 (w.heap.size + 2) g1 ds.length c1 ((ds.take i |>.map heldD) ++ ds.drop i)) := by rw [hW]; exact FD.out.alloc _
      have FP : Hid (Ow W5 (w.heap.size + 2) g2 ps.length c2 (ps)) := by rw [hW]; exact FP.out.alloc _
      have FS : Hid (Blk W5 sb ([.int .i64 p.sh.lo.pos, .int .i64 p.sh.lo.vel, .int .i64 p.sh.lo.door, .int .i64 p.sh.up.pos, .int .i64 p.sh.up.vel, .int .i64 p.sh.up.door, .int .i64 p.sp.l.lo, .int .i64 p.sp.l.hi, .int .i64 p.sp.u.lo, .int .i64 p.sp.u.hi, .int .i64 p.pl, .int .i64 p.pu, .bool p.hd])) := by rw [hW]; exact Blk.at_ wr ([.int .i64 p.sh.lo.pos, .int .i64 p.sh.lo.vel, .int .i64 p.sh.lo.door, .int .i64 p.sh.up.pos, .int .i64 p.sh.up.vel, .int .i64 p.sh.up.door, .int .i64 p.sp.l.lo, .int .i64 p.sp.l.hi, .int .i64 p.sp.u.lo, .int .i64 p.sp.u.hi, .int .i64 p.pl, .int .i64 p.pu, .bool p.hd]).toArray _ _ hsb
      rw [← hW, ← hsb]
      clear hW hsb
      have F0 : Hid (Blk W5.drew w.heap.size (gvs h (.slice (some ⟨gd, 0, none⟩) ds.length dc) nx (.slice (some ⟨gp, 0, none⟩) ps.length pc) tk rc)) := F0.out.below (Below.refl _ _).drew F0.out.lt
      have FG : Hid (Blk W5.drew gb (gvs h (.slice (some ⟨g1, 0, none⟩) ds.length c1) nx (.slice (some ⟨g2, 0, none⟩) ps.length c2) tk rc)) := FG.out.below (Below.refl _ _).drew FG.out.lt
      have F1 : Hid (Blk W5.drew (w.heap.size + 1) ([.int .i64 0, .int .i64 0, .int .i64 0, .int .i64 0, .int .i64 0, .int .i64 0, .int .i64 0, .int .i64 0, .int .i64 0, .int .i64 0, .int .i64 0, .int .i64 0, .int .i64 0, .int .i64 0, .slice none 0 0, .int .i64 0, .slice none 0 0, .int .i64 0, .bool false])) := F1.out.below (Below.refl _ _).drew F1.out.lt
      have FD : Hid (OwD W5.drew (w.heap.size + 2) g1 ds.length c1 ((ds.take i |>.map heldD) ++ ds.drop i)) := FD.out.drew
      have HZ : Hid (((ds.take i |>.map heldD) ++ ds.drop i)[i]? = some p) := HZ.out
      have FP : Hid (Ow W5.drew (w.heap.size + 2) g2 ps.length c2 (ps)) := FP.out.drew
      have FS : Hid (Blk W5.drew sb [.int .i64 p.sh.lo.pos, .int .i64 p.sh.lo.vel, .int .i64 p.sh.lo.door, .int .i64 p.sh.up.pos, .int .i64 p.sh.up.vel, .int .i64 p.sh.up.door, .int .i64 p.sp.l.lo, .int .i64 p.sp.l.hi, .int .i64 p.sp.u.lo, .int .i64 p.sp.u.hi, .int .i64 p.pl, .int .i64 p.pu, .bool p.hd]) := FS.out.below (Below.refl _ _).drew FS.out.lt
      have FB : Hid (Below w.heap.size w W5.drew) := FB.out.drew
      have x12 := FG.out.c 12 _ rfl
      refine wp_region_held_drew (S := (fun w'' => Blk w'' sb ([.int .i64 p.sh.lo.pos, .int .i64 p.sh.lo.vel, .int .i64 p.sh.lo.door, .int .i64 p.sh.up.pos, .int .i64 p.sh.up.vel, .int .i64 p.sh.up.door, .int .i64 p.sp.l.lo, .int .i64 p.sp.l.hi, .int .i64 p.sp.u.lo, .int .i64 p.sp.u.hi, .int .i64 p.pl, .int .i64 p.pu, .bool p.hd]) ∧ w''.cell? ⟨gb, 12, none⟩ = some (.slice (some ⟨g1, 0, none⟩) ds.length c1))) (by kernel_rfl) (by (try dsimp only); first | exact ⟨FS.out, x12⟩ | go_keep) (fun hHeld => ?_)
      obtain ⟨v_6, hw1⟩ : ∃ v_6, v_6 = W5.drew := ⟨_, rfl⟩
      have F0 : Hid (Blk v_6 w.heap.size (gvs h (.slice (some ⟨gd, 0, none⟩) ds.length dc) nx (.slice (some ⟨gp, 0, none⟩) ps.length pc) tk rc)) := by rw [hw1]; exact F0.out
      have FG : Hid (Blk v_6 gb (gvs h (.slice (some ⟨g1, 0, none⟩) ds.length c1) nx (.slice (some ⟨g2, 0, none⟩) ps.length c2) tk rc)) := by rw [hw1]; exact FG.out
      have F1 : Hid (Blk v_6 (w.heap.size + 1) ([.int .i64 0, .int .i64 0, .int .i64 0, .int .i64 0, .int .i64 0, .int .i64 0, .int .i64 0, .int .i64 0, .int .i64 0, .int .i64 0, .int .i64 0, .int .i64 0, .int .i64 0, .int .i64 0, .slice none 0 0, .int .i64 0, .slice none 0 0, .int .i64 0, .bool false])) := by rw [hw1]; exact F1.out
      have FD : Hid (OwD v_6 (w.heap.size + 2) g1 ds.length c1 ((ds.take i |>.map heldD) ++ ds.drop i)) := by rw [hw1]; exact FD.out
      have FP : Hid (Ow v_6 (w.heap.size + 2) g2 ps.length c2 (ps)) := by rw [hw1]; exact FP.out
      have FS : Hid (Blk v_6 sb [.int .i64 p.sh.lo.pos, .int .i64 p.sh.lo.vel, .int .i64 p.sh.lo.door, .int .i64 p.sh.up.pos, .int .i64 p.sh.up.vel, .int .i64 p.sh.up.door, .int .i64 p.sp.l.lo, .int .i64 p.sp.l.hi, .int .i64 p.sp.u.lo, .int .i64 p.sp.u.hi, .int .i64 p.pl, .int .i64 p.pu, .bool p.hd]) := by rw [hw1]; exact FS.out
      have FB : Hid (Below w.heap.size w v_6) := by rw [hw1]; exact FB.out
      rw [← hw1] at hHeld ⊢
      clear hw1
      have x12 := FG.out.c 12 _ rfl
      refine tkz 0 rfl ?_
      refine tkz 1 rfl ?_
      refine tkz 2 rfl ?_
      refine tkz 3 rfl ?_ (hy := Or.inl ⟨by kernel_rfl, fun wx hSw => exec_load_blk 61 _ Tryz.underlying61 (by kernel_rfl) rfl rfl hSw.1⟩)
      refine wpAnyH_ready (rs := [4]) (by kernel_rfl) (by simp) ?_
      refine (AllReadyH.cons rfl (fun K hK => ?_) AllReadyH.nil)
      go_simp
      refine (heldDeck_any p _).mono ?_
      rintro e v_7 ⟨rfl, hb⟩
      have F0 : Hid (Blk v_7 w.heap.size (gvs h (.slice (some ⟨gd, 0, none⟩) ds.length dc) nx (.slice (some ⟨gp, 0, none⟩) ps.length pc) tk rc)) := F0.out.below hb F0.out.lt
      have FG : Hid (Blk v_7 gb (gvs h (.slice (some ⟨g1, 0, none⟩) ds.length c1) nx (.slice (some ⟨g2, 0, none⟩) ps.length c2) tk rc)) := FG.out.below hb FG.out.lt
      have F1 : Hid (Blk v_7 (w.heap.size + 1) ([.int .i64 0, .int .i64 0, .int .i64 0, .int .i64 0, .int .i64 0, .int .i64 0, .int .i64 0, .int .i64 0, .int .i64 0, .int .i64 0, .int .i64 0, .int .i64 0, .int .i64 0, .int .i64 0, .slice none 0 0, .int .i64 0, .slice none 0 0, .int .i64 0, .bool false])) := F1.out.below hb F1.out.lt
      have FD : Hid (OwD v_7 (w.heap.size + 2) g1 ds.length c1 ((ds.take i |>.map heldD) ++ ds.drop i)) := FD.out.below hb FD.out.bl.2
      have HZ : Hid (((ds.take i |>.map heldD) ++ ds.drop i)[i]? = some p) := HZ.out
      have FP : Hid (Ow v_7 (w.heap.size + 2) g2 ps.length c2 (ps)) := FP.out.below hb FP.out.bl.2
      have FS : Hid (Blk v_7 sb [.int .i64 p.sh.lo.pos, .int .i64 p.sh.lo.vel, .int .i64 p.sh.lo.door, .int .i64 p.sh.up.pos, .int .i64 p.sh.up.vel, .int .i64 p.sh.up.door, .int .i64 p.sp.l.lo, .int .i64 p.sp.l.hi, .int .i64 p.sp.u.lo, .int .i64 p.sp.u.hi, .int .i64 p.pl, .int .i64 p.pu, .bool p.hd]) := FS.out.below hb FS.out.lt
      have FB : Hid (Below w.heap.size w v_7) := FB.out.trans (hb.mono FB.out.size)
      clear hb
      have x12 := FG.out.c 12 _ rfl
      try dsimp only
      refine hK.out _ _ (by (try dsimp only); first | exact ⟨FS.out, x12⟩ | go_keep) (fun hHeld => ?_)
      clear hK K
      try simp only [Act.put, List.getElem_toArray, List.getElem_cons_succ, List.getElem_cons_zero, List.setIfInBounds_toArray, List.set_cons_zero, List.set_cons_succ]
      refine tkz 5 rfl ?_
      refine wpAnyH_ready (rs := [6]) (by kernel_rfl) (by simp) ?_
      refine (AllReadyH.cons rfl (fun K hK => ?_) AllReadyH.nil)
      obtain ⟨d0, d1, d2, d3, d4, d5, d6, d7, d8, d9, d10, d11, d12⟩ := FD.out.d13 HZ.out
      have df0 := FD.out.fz (i * 13)
      have df1 := FD.out.fz (i * 13 + 1)
      have df2 := FD.out.fz (i * 13 + 2)
      have df3 := FD.out.fz (i * 13 + 3)
      have df4 := FD.out.fz (i * 13 + 4)
      have df5 := FD.out.fz (i * 13 + 5)
      have df6 := FD.out.fz (i * 13 + 6)
      have df7 := FD.out.fz (i * 13 + 7)
      have df8 := FD.out.fz (i * 13 + 8)
      have df9 := FD.out.fz (i * 13 + 9)
      have df10 := FD.out.fz (i * 13 + 10)
      have df11 := FD.out.fz (i * 13 + 11)
      have df12 := FD.out.fz (i * 13 + 12)
      go_simp
      obtain ⟨v_8, hw2⟩ : ∃ v_8, v_8 = putD v_7 g1 (i * 13) (heldD p) := ⟨_, rfl⟩
      change K _ (putD v_7 g1 (i * 13) (heldD p))
      rw [← hw2]
      clear d0 df0 d1 df1 d2 df2 d3 df3 d4 df4 d5 df5 d6 df6 d7 df7 d8 df8 d9 df9 d10 df10 d11 df11 d12 df12
      have F0 : Hid (Blk v_8 w.heap.size (gvs h (.slice (some ⟨gd, 0, none⟩) ds.length dc) nx (.slice (some ⟨gp, 0, none⟩) ps.length pc) tk rc)) := by rw [hw2]; exact F0.out.grown (grown_putD _ _ _ _) (fun e => by have e2 := Option.some.inj e; omega)
      have FG : Hid (Blk v_8 gb (gvs h (.slice (some ⟨g1, 0, none⟩) ds.length c1) nx (.slice (some ⟨g2, 0, none⟩) ps.length c2) tk rc)) := by rw [hw2]; exact FG.out.grown (grown_putD _ _ _ _) (fun e => by have e2 := Option.some.inj e; omega)
      have F1 : Hid (Blk v_8 (w.heap.size + 1) ([.int .i64 0, .int .i64 0, .int .i64 0, .int .i64 0, .int .i64 0, .int .i64 0, .int .i64 0, .int .i64 0, .int .i64 0, .int .i64 0, .int .i64 0, .int .i64 0, .int .i64 0, .int .i64 0, .slice none 0 0, .int .i64 0, .slice none 0 0, .int .i64 0, .bool false])) := by rw [hw2]; exact F1.out.grown (grown_putD _ _ _ _) (fun e => by have e2 := Option.some.inj e; omega)
      have FD : Hid (OwD v_8 (w.heap.size + 2) g1 ds.length c1 (((ds.take i |>.map heldD) ++ ds.drop i).set i (heldD p))) := by rw [hw2]; exact FD.out.put (heldD p) HZ.out
      have HZ : Hid ((((ds.take i |>.map heldD) ++ ds.drop i).set i (heldD p))[i]? = some (heldD p)) := get_setD HZ.out
      have FP : Hid (Ow v_8 (w.heap.size + 2) g2 ps.length c2 (ps)) := by rw [hw2]; exact FP.out.kept (grown_putD _ _ _ _) (fun e => by have e2 := Option.some.inj e; omega)
      have FS : Hid (Blk v_8 sb [.int .i64 p.sh.lo.pos, .int .i64 p.sh.lo.vel, .int .i64 p.sh.lo.door, .int .i64 p.sh.up.pos, .int .i64 p.sh.up.vel, .int .i64 p.sh.up.door, .int .i64 p.sp.l.lo, .int .i64 p.sp.l.hi, .int .i64 p.sp.u.lo, .int .i64 p.sp.u.hi, .int .i64 p.pl, .int .i64 p.pu, .bool p.hd]) := by rw [hw2]; exact FS.out.grown (grown_putD _ _ _ _) (fun e => by have e2 := Option.some.inj e; omega)
      have FB : Hid (Below w.heap.size w v_8) := by rw [hw2]; exact below_putD FB.out (by omega) _ _
      clear hw2
      have x12 := FG.out.c 12 _ rfl
      refine hK.out _ _ (by (try dsimp only); first | exact ⟨FS.out, x12⟩ | go_keep) (fun hHeld => ?_)
      clear hK K
      try simp only [Act.put, List.getElem_toArray, List.getElem_cons_succ, List.getElem_cons_zero, List.setIfInBounds_toArray, List.set_cons_zero, List.set_cons_succ]
      refine wpAnyH_done (by kernel_rfl) ?_ _
      rw [HE.out] at FD
      go_wp2_with fail
      go_roundw
      case rel => exact ⟨i + 1, by simp, by omega, F0.out, FG.out, F1.out, FD.out, FP.out, FB.out⟩
      case measure => simp [intOf]; omega
    · have ei : i = ds.length := by omega
      have FE : Hid (OwD wr (w.heap.size + 2) g1 ds.length c1 (ds.map heldD)) := by
        have q := FD.out
        rw [ei, held_all] at q
        exact q
      clear FD
      subst ei
      have FD : Hid (OwD wr (w.heap.size + 2) g1 ds.length c1 (ds.map heldD)) := FE.out
      go_wp2_with (first | (refine load_blk 37 _ Tryz.underlying37 (by kernel_rfl) FG.out rfl rfl rfl ?_) | (refine store_blk (rvs 0 0 h (.slice (some ⟨g1, 0, none⟩) ds.length c1) nx (.slice (some ⟨g2, 0, none⟩) ps.length c2) tk rc) 39 _ _ (by kernel_rfl) (by kernel_rfl) (by kernel_rfl) F1.out rfl rfl rfl rfl ?_))
      refine bodyPost_ret (v := .agg #[.int .i64 0, .int .i64 0, .int .i64 h.fl, .int .i64 h.gp, .int .i64 h.ln, .int .i64 h.rf, .int .i64 h.sp, .int .i64 h.pu, .int .i64 h.br, .int .i64 h.dr, .int .i64 h.lv, .int .i64 h.dO, .int .i64 h.ld, .int .i64 h.qu, .slice (some ⟨g1, 0, none⟩) ds.length c1, .int .i64 nx, .slice (some ⟨g2, 0, none⟩) ps.length c2, .int .i64 tk, .bool rc]) ((F1.out.row (rvs 0 0 h (.slice (some ⟨g1, 0, none⟩) ds.length c1) nx (.slice (some ⟨g2, 0, none⟩) ps.length c2) tk rc)).res _ Tryz.results8 Tryz.underlying39 (by kernel_rfl) rfl) rfl ?_
      have o1 := ((FD.out.row (b := w.heap.size + 1) (by have := FD.out.bl.1; omega) (rvs 0 0 h (.slice (some ⟨g1, 0, none⟩) ds.length c1) nx (.slice (some ⟨g2, 0, none⟩) ps.length c2) tk rc).toArray).base (show w.heap.size ≤ w.heap.size + 2 by omega)).own
      have o2 := ((FP.out.row (b := w.heap.size + 1) (by have := FP.out.bl.1; omega) (rvs 0 0 h (.slice (some ⟨g1, 0, none⟩) ds.length c1) nx (.slice (some ⟨g2, 0, none⟩) ps.length c2) tk rc).toArray).base (show w.heap.size ≤ w.heap.size + 2 by omega)).own
      have hq1 : (ds.map heldD).length = ds.length := List.length_map ..
      have hq2 : (ps).length = ps.length := rfl
      exact ⟨some ⟨g1, 0, none⟩, c1, some ⟨g2, 0, none⟩, c2, by rw [hq1, hq2], by rw [hq1]; exact o1, by rw [hq2]; exact o2, (fun j e1 e2 => by have a1 : g1 = j := Option.some.inj e1; have a2 : g2 = j := Option.some.inj e2; omega), below_row FB.out (by omega) _⟩
set_option maxRecDepth 20000 in
set_option maxHeartbeats 32000000 in
theorem implRestartGroup_false (h : Hs) (ds : List Dk) (gd dc : Nat) (nx : Int) (ps : List Pe) (gp pc : Nat) (tk : Int) (rc : Bool) (hf : Gr.fault ⟨h, ds, ⟨nx, ps⟩, tk, rc⟩ = 0) (hld : ds.length ≤ 1048576) (hlp : ps.length ≤ 1048576) (w : World) (hI : GI w gd gp ds ps) : Calls Tryz.prog 8 #[.agg #[.int .i64 h.fl, .int .i64 h.gp, .int .i64 h.ln, .int .i64 h.rf, .int .i64 h.sp, .int .i64 h.pu, .int .i64 h.br, .int .i64 h.dr, .int .i64 h.lv, .int .i64 h.dO, .int .i64 h.ld, .int .i64 h.qu, .slice (some ⟨gd, 0, none⟩) ds.length dc, .int .i64 nx, .slice (some ⟨gp, 0, none⟩) ps.length pc, .int .i64 tk, .bool rc], .bool false] w (isGrp w 0 0 h (ds.map heldD) nx (ps.map dropP) tk rc) := by
  have FI0 : Hid (GI w gd gp ds ps) := hI
  have HL : Hid (Hs.led h ⟨nx, ps⟩ = 0 ∧ Hs.dropV h ⟨nx, ps⟩ = ⟨nx, ps.map dropP⟩) := (by have q := (Gr.fault_parts hf).2.2.2.1; exact ⟨q, if_pos q⟩)
  have fld : ∀ W (v : Value) , (Instr.field 70 (.agg #[.int .i64 0, .int .i64 0, .int .i64 nx, v]) 2).run Tryz.prog W = .ok (.agg #[.int .i64 nx, v]) W := fun W v => by kernel_rfl
  have F0 : Hid (Blk ((w.alloc (.cells #[.int .i64 h.fl, .int .i64 h.gp, .int .i64 h.ln, .int .i64 h.rf, .int .i64 h.sp, .int .i64 h.pu, .int .i64 h.br, .int .i64 h.dr, .int .i64 h.lv, .int .i64 h.dO, .int .i64 h.ld, .int .i64 h.qu, .slice (some ⟨gd, 0, none⟩) ds.length dc, .int .i64 nx, .slice (some ⟨gp, 0, none⟩) ps.length pc, .int .i64 tk, .bool rc] 37)).alloc (.cells #[.int .i64 0, .int .i64 0, .int .i64 0, .int .i64 0, .int .i64 0, .int .i64 0, .int .i64 0, .int .i64 0, .int .i64 0, .int .i64 0, .int .i64 0, .int .i64 0, .int .i64 0, .int .i64 0, .slice none 0 0, .int .i64 0, .slice none 0 0, .int .i64 0, .bool false] 39)) w.heap.size (gvs h (.slice (some ⟨gd, 0, none⟩) ds.length dc) nx (.slice (some ⟨gp, 0, none⟩) ps.length pc) tk rc)) := (Blk.at_ w #[.int .i64 h.fl, .int .i64 h.gp, .int .i64 h.ln, .int .i64 h.rf, .int .i64 h.sp, .int .i64 h.pu, .int .i64 h.br, .int .i64 h.dr, .int .i64 h.lv, .int .i64 h.dO, .int .i64 h.ld, .int .i64 h.qu, .slice (some ⟨gd, 0, none⟩) ds.length dc, .int .i64 nx, .slice (some ⟨gp, 0, none⟩) ps.length pc, .int .i64 tk, .bool rc] _ _ rfl).alloc _
  have F1 : Hid (Blk ((w.alloc (.cells #[.int .i64 h.fl, .int .i64 h.gp, .int .i64 h.ln, .int .i64 h.rf, .int .i64 h.sp, .int .i64 h.pu, .int .i64 h.br, .int .i64 h.dr, .int .i64 h.lv, .int .i64 h.dO, .int .i64 h.ld, .int .i64 h.qu, .slice (some ⟨gd, 0, none⟩) ds.length dc, .int .i64 nx, .slice (some ⟨gp, 0, none⟩) ps.length pc, .int .i64 tk, .bool rc] 37)).alloc (.cells #[.int .i64 0, .int .i64 0, .int .i64 0, .int .i64 0, .int .i64 0, .int .i64 0, .int .i64 0, .int .i64 0, .int .i64 0, .int .i64 0, .int .i64 0, .int .i64 0, .int .i64 0, .int .i64 0, .slice none 0 0, .int .i64 0, .slice none 0 0, .int .i64 0, .bool false] 39)) (w.heap.size + 1) ([.int .i64 0, .int .i64 0, .int .i64 0, .int .i64 0, .int .i64 0, .int .i64 0, .int .i64 0, .int .i64 0, .int .i64 0, .int .i64 0, .int .i64 0, .int .i64 0, .int .i64 0, .int .i64 0, .slice none 0 0, .int .i64 0, .slice none 0 0, .int .i64 0, .bool false])) := Blk.at_ _ #[.int .i64 0, .int .i64 0, .int .i64 0, .int .i64 0, .int .i64 0, .int .i64 0, .int .i64 0, .int .i64 0, .int .i64 0, .int .i64 0, .int .i64 0, .int .i64 0, .int .i64 0, .int .i64 0, .slice none 0 0, .int .i64 0, .slice none 0 0, .int .i64 0, .bool false] _ _ (by simp)
  have FB : Hid (Below w.heap.size w ((w.alloc (.cells #[.int .i64 h.fl, .int .i64 h.gp, .int .i64 h.ln, .int .i64 h.rf, .int .i64 h.sp, .int .i64 h.pu, .int .i64 h.br, .int .i64 h.dr, .int .i64 h.lv, .int .i64 h.dO, .int .i64 h.ld, .int .i64 h.qu, .slice (some ⟨gd, 0, none⟩) ds.length dc, .int .i64 nx, .slice (some ⟨gp, 0, none⟩) ps.length pc, .int .i64 tk, .bool rc] 37)).alloc (.cells #[.int .i64 0, .int .i64 0, .int .i64 0, .int .i64 0, .int .i64 0, .int .i64 0, .int .i64 0, .int .i64 0, .int .i64 0, .int .i64 0, .int .i64 0, .int .i64 0, .int .i64 0, .int .i64 0, .slice none 0 0, .int .i64 0, .slice none 0 0, .int .i64 0, .bool false] 39))) := ((Below.refl _ _).alloc (Nat.le_refl _) _).alloc (by simp) _
  have FI : Hid (GI ((w.alloc (.cells #[.int .i64 h.fl, .int .i64 h.gp, .int .i64 h.ln, .int .i64 h.rf, .int .i64 h.sp, .int .i64 h.pu, .int .i64 h.br, .int .i64 h.dr, .int .i64 h.lv, .int .i64 h.dO, .int .i64 h.ld, .int .i64 h.qu, .slice (some ⟨gd, 0, none⟩) ds.length dc, .int .i64 nx, .slice (some ⟨gp, 0, none⟩) ps.length pc, .int .i64 tk, .bool rc] 37)).alloc (.cells #[.int .i64 0, .int .i64 0, .int .i64 0, .int .i64 0, .int .i64 0, .int .i64 0, .int .i64 0, .int .i64 0, .int .i64 0, .int .i64 0, .int .i64 0, .int .i64 0, .int .i64 0, .int .i64 0, .slice none 0 0, .int .i64 0, .slice none 0 0, .int .i64 0, .bool false] 39)) gd gp ds ps) := (hI.alloc _).alloc _
  have LI : Hid (gd < w.heap.size ∧ gp < w.heap.size) := ⟨hI.ld, hI.lp⟩
  obtain ⟨W0, hW0⟩ : ∃ W0, W0 = ((w.alloc (.cells #[.int .i64 h.fl, .int .i64 h.gp, .int .i64 h.ln, .int .i64 h.rf, .int .i64 h.sp, .int .i64 h.pu, .int .i64 h.br, .int .i64 h.dr, .int .i64 h.lv, .int .i64 h.dO, .int .i64 h.ld, .int .i64 h.qu, .slice (some ⟨gd, 0, none⟩) ds.length dc, .int .i64 nx, .slice (some ⟨gp, 0, none⟩) ps.length pc, .int .i64 tk, .bool rc] 37)).alloc (.cells #[.int .i64 0, .int .i64 0, .int .i64 0, .int .i64 0, .int .i64 0, .int .i64 0, .int .i64 0, .int .i64 0, .int .i64 0, .int .i64 0, .int .i64 0, .int .i64 0, .int .i64 0, .int .i64 0, .slice none 0 0, .int .i64 0, .slice none 0 0, .int .i64 0, .bool false] 39)) := ⟨_, rfl⟩
  rw [← hW0] at F0 F1 FB FI
  have HW0 : Hid (W0 = ((w.alloc (.cells #[.int .i64 h.fl, .int .i64 h.gp, .int .i64 h.ln, .int .i64 h.rf, .int .i64 h.sp, .int .i64 h.pu, .int .i64 h.br, .int .i64 h.dr, .int .i64 h.lv, .int .i64 h.dO, .int .i64 h.ld, .int .i64 h.qu, .slice (some ⟨gd, 0, none⟩) ds.length dc, .int .i64 nx, .slice (some ⟨gp, 0, none⟩) ps.length pc, .int .i64 tk, .bool rc] 37)).alloc (.cells #[.int .i64 0, .int .i64 0, .int .i64 0, .int .i64 0, .int .i64 0, .int .i64 0, .int .i64 0, .int .i64 0, .int .i64 0, .int .i64 0, .int .i64 0, .int .i64 0, .int .i64 0, .int .i64 0, .slice none 0 0, .int .i64 0, .slice none 0 0, .int .i64 0, .bool false] 39))) := hW0
  clear hW0 hI
  go_enter Tryz.func8, Tryz.ntmps8
  go_upto_region 1 with fail
  rw [← HW0.out]
  clear HW0
  go_upto_region 5 with (first | (refine load_blk 37 _ Tryz.underlying37 (by kernel_rfl) F0.out rfl rfl rfl ?_) | (go_at_call 25; refine (implGroupFault_any h ds (some ⟨gd, 0, none⟩) dc nx ps (some ⟨gp, 0, none⟩) pc tk rc hld hlp _ FI.out.din FI.out.pin).mono ?_; rw [hf]; rintro e w1 ⟨rfl, hb⟩; have F0 : Hid (Blk w1 w.heap.size (gvs h (.slice (some ⟨gd, 0, none⟩) ds.length dc) nx (.slice (some ⟨gp, 0, none⟩) ps.length pc) tk rc)) := F0.out.below hb F0.out.lt; have F1 : Hid (Blk w1 (w.heap.size + 1) ([.int .i64 0, .int .i64 0, .int .i64 0, .int .i64 0, .int .i64 0, .int .i64 0, .int .i64 0, .int .i64 0, .int .i64 0, .int .i64 0, .int .i64 0, .int .i64 0, .int .i64 0, .int .i64 0, .slice none 0 0, .int .i64 0, .slice none 0 0, .int .i64 0, .bool false])) := F1.out.below hb F1.out.lt; have FI : Hid (GI w1 gd gp ds ps) := FI.out.below hb FI.out.ld FI.out.lp; have FB : Hid (Below w.heap.size w w1) := FB.out.trans (hb.mono FB.out.size); clear hb) | (go_at_call 26; refine (copiedGroup_any h ds gd dc nx ps gp pc tk rc hld hlp _ FI.out).mono ?_; rintro e w2 ⟨g1, c1, g2, c2, rfl, ho1, ho2, ne12, hb⟩; have q1 := F1.out.lt; have FD : Hid (OwD w2 (w.heap.size + 2) g1 ds.length c1 (ds)) := ho1.base (by omega); have FP : Hid (Ow w2 (w.heap.size + 2) g2 ps.length c2 (ps)) := ho2.base (by omega); have F0 : Hid (Blk w2 w.heap.size (gvs h (.slice (some ⟨gd, 0, none⟩) ds.length dc) nx (.slice (some ⟨gp, 0, none⟩) ps.length pc) tk rc)) := F0.out.below hb F0.out.lt; have F1 : Hid (Blk w2 (w.heap.size + 1) ([.int .i64 0, .int .i64 0, .int .i64 0, .int .i64 0, .int .i64 0, .int .i64 0, .int .i64 0, .int .i64 0, .int .i64 0, .int .i64 0, .int .i64 0, .int .i64 0, .int .i64 0, .int .i64 0, .slice none 0 0, .int .i64 0, .slice none 0 0, .int .i64 0, .bool false])) := F1.out.below hb F1.out.lt; have FI : Hid (GI w2 gd gp ds ps) := FI.out.below hb FI.out.ld FI.out.lp; have FB : Hid (Below w.heap.size w w2) := FB.out.trans (hb.mono FB.out.size); clear hb; clear ho1 ho2 q1) | (refine store_new (gvs h (.slice (some ⟨g1, 0, none⟩) ds.length c1) nx (.slice (some ⟨g2, 0, none⟩) ps.length c2) tk rc) 37 _ _ (by kernel_rfl) (by kernel_rfl) (by kernel_rfl) rfl rfl rfl rfl ?_))
  obtain ⟨gb, hgb⟩ : ∃ b, b = w2.heap.size := ⟨_, rfl⟩
  obtain ⟨W3, hW⟩ : ∃ W, W = w2.alloc (.cells (gvs h (.slice (some ⟨g1, 0, none⟩) ds.length c1) nx (.slice (some ⟨g2, 0, none⟩) ps.length c2) tk rc).toArray 37) := ⟨_, rfl⟩
  have lg := F1.out.lt
  rw [← hgb] at lg
  have lg1 := FD.out.bl.2
  rw [← hgb] at lg1
  have lg2 := FP.out.bl.2
  rw [← hgb] at lg2
  have F0 : Hid (Blk W3 w.heap.size (gvs h (.slice (some ⟨gd, 0, none⟩) ds.length dc) nx (.slice (some ⟨gp, 0, none⟩) ps.length pc) tk rc)) := by rw [hW]; exact F0.out.alloc _
  have F1 : Hid (Blk W3 (w.heap.size + 1) ([.int .i64 0, .int .i64 0, .int .i64 0, .int .i64 0, .int .i64 0, .int .i64 0, .int .i64 0, .int .i64 0, .int .i64 0, .int .i64 0, .int .i64 0, .int .i64 0, .int .i64 0, .int .i64 0, .slice none 0 0, .int .i64 0, .slice none 0 0, .int .i64 0, .bool false])) := by rw [hW]; exact F1.out.alloc _
  have FI : Hid (GI W3 gd gp ds ps) := by rw [hW]; exact FI.out.alloc _
  have FB : Hid (Below w.heap.size w W3) := by rw [hW]; exact FB.out.alloc FB.out.size _
  have FD : Hid (OwD W3 (w.heap.size + 2) g1 ds.length c1 (ds)) := by rw [hW]; exact FD.out.alloc _
  have FP : Hid (Ow W3 (w.heap.size + 2) g2 ps.length c2 (ps)) := by rw [hW]; exact FP.out.alloc _
  have FG : Hid (Blk W3 gb (gvs h (.slice (some ⟨g1, 0, none⟩) ds.length c1) nx (.slice (some ⟨g2, 0, none⟩) ps.length c2) tk rc)) := by rw [hW]; exact Blk.at_ w2 (gvs h (.slice (some ⟨g1, 0, none⟩) ds.length c1) nx (.slice (some ⟨g2, 0, none⟩) ps.length c2) tk rc).toArray _ _ hgb
  rw [← hW, ← hgb]
  clear hW hgb
  have lB1 := FD.out.bl.1
  have lB2 := FP.out.bl.1
  clear FI
  have x12 := FG.out.c 12 _ rfl
  go_wp2_with fail
  clear x12
  go_loopw [20] (fun kk wr => ∃ i : Nat, kk = .int .i64 i ∧ i ≤ ds.length ∧ Blk wr w.heap.size (gvs h (.slice (some ⟨gd, 0, none⟩) ds.length dc) nx (.slice (some ⟨gp, 0, none⟩) ps.length pc) tk rc) ∧ Blk wr gb (gvs h (.slice (some ⟨g1, 0, none⟩) ds.length c1) nx (.slice (some ⟨g2, 0, none⟩) ps.length c2) tk rc) ∧ Blk wr (w.heap.size + 1) ([.int .i64 0, .int .i64 0, .int .i64 0, .int .i64 0, .int .i64 0, .int .i64 0, .int .i64 0, .int .i64 0, .int .i64 0, .int .i64 0, .int .i64 0, .int .i64 0, .int .i64 0, .int .i64 0, .slice none 0 0, .int .i64 0, .slice none 0 0, .int .i64 0, .bool false]) ∧ OwD wr (w.heap.size + 2) g1 ds.length c1 ((ds.take i |>.map heldD) ++ ds.drop i) ∧ Ow wr (w.heap.size + 2) g2 ps.length c2 (ps) ∧ Below w.heap.size w wr) (fun kk _ => ds.length - (intOf kk).toNat)
  case atStart => exact ⟨0, rfl, by omega, F0.out, FG.out, F1.out, by simpa using FD.out, FP.out, FB.out⟩
  case round =>
    obtain ⟨i, rfl, hi, hF0, hFG, hF1, hFD, hFP, hFB⟩ := hrel
    clear F0 FG F1 FD FP FB
    have F0 : Hid (Blk wr w.heap.size (gvs h (.slice (some ⟨gd, 0, none⟩) ds.length dc) nx (.slice (some ⟨gp, 0, none⟩) ps.length pc) tk rc)) := hF0
    have FG : Hid (Blk wr gb (gvs h (.slice (some ⟨g1, 0, none⟩) ds.length c1) nx (.slice (some ⟨g2, 0, none⟩) ps.length c2) tk rc)) := hFG
    have F1 : Hid (Blk wr (w.heap.size + 1) ([.int .i64 0, .int .i64 0, .int .i64 0, .int .i64 0, .int .i64 0, .int .i64 0, .int .i64 0, .int .i64 0, .int .i64 0, .int .i64 0, .int .i64 0, .int .i64 0, .int .i64 0, .int .i64 0, .slice none 0 0, .int .i64 0, .slice none 0 0, .int .i64 0, .bool false])) := hF1
    have FD : Hid (OwD wr (w.heap.size + 2) g1 ds.length c1 ((ds.take i |>.map heldD) ++ ds.drop i)) := hFD
    have FP : Hid (Ow wr (w.heap.size + 2) g2 ps.length c2 (ps)) := hFP
    have FB : Hid (Below w.heap.size w wr) := hFB
    clear hF0 hFG hF1 hFD hFP hFB
    by_cases hlt : i < ds.length
    · obtain ⟨p, hp⟩ : ∃ p, ds[i]? = some p := ⟨_, List.getElem?_eq_getElem hlt⟩
      have HZ : Hid (((ds.take i |>.map heldD) ++ ds.drop i)[i]? = some p) := held_get hp
      have HE : Hid (((ds.take i |>.map heldD) ++ ds.drop i).set i (heldD p) = (ds.take (i + 1) |>.map heldD) ++ ds.drop (i + 1)) := held_set hp
      clear hp
      obtain ⟨d0, d1, d2, d3, d4, d5, d6, d7, d8, d9, d10, d11, d12⟩ := FD.out.d13 HZ.out
      go_upto_region 8 with (refine store_new ([.int .i64 p.sh.lo.pos, .int .i64 p.sh.lo.vel, .int .i64 p.sh.lo.door, .int .i64 p.sh.up.pos, .int .i64 p.sh.up.vel, .int .i64 p.sh.up.door, .int .i64 p.sp.l.lo, .int .i64 p.sp.l.hi, .int .i64 p.sp.u.lo, .int .i64 p.sp.u.hi, .int .i64 p.pl, .int .i64 p.pu, .bool p.hd]) 61 _ _ (by kernel_rfl) (by kernel_rfl) (by kernel_rfl) rfl rfl rfl rfl ?_)
      clear d0 d1 d2 d3 d4 d5 d6 d7 d8 d9 d10 d11 d12
      obtain ⟨sb, hsb⟩ : ∃ b, b = wr.heap.size := ⟨_, rfl⟩
      obtain ⟨W5, hW⟩ : ∃ W, W = wr.alloc (.cells ([.int .i64 p.sh.lo.pos, .int .i64 p.sh.lo.vel, .int .i64 p.sh.lo.door, .int .i64 p.sh.up.pos, .int .i64 p.sh.up.vel, .int .i64 p.sh.up.door, .int .i64 p.sp.l.lo, .int .i64 p.sp.l.hi, .int .i64 p.sp.u.lo, .int .i64 p.sp.u.hi, .int .i64 p.pl, .int .i64 p.pu, .bool p.hd]).toArray 61) := ⟨_, rfl⟩
      have ls0 := FG.out.lt
      rw [← hsb] at ls0
      have ls1 := FD.out.bl.2
      rw [← hsb] at ls1
      have ls2 := FP.out.bl.2
      rw [← hsb] at ls2
      have F0 : Hid (Blk W5 w.heap.size (gvs h (.slice (some ⟨gd, 0, none⟩) ds.length dc) nx (.slice (some ⟨gp, 0, none⟩) ps.length pc) tk rc)) := by rw [hW]; exact F0.out.alloc _
      have F1 : Hid (Blk W5 (w.heap.size + 1) ([.int .i64 0, .int .i64 0, .int .i64 0, .int .i64 0, .int .i64 0, .int .i64 0, .int .i64 0, .int .i64 0, .int .i64 0, .int .i64 0, .int .i64 0, .int .i64 0, .int .i64 0, .int .i64 0, .slice none 0 0, .int .i64 0, .slice none 0 0, .int .i64 0, .bool false])) := by rw [hW]; exact F1.out.alloc _
      have FB : Hid (Below w.heap.size w W5) := by rw [hW]; exact FB.out.alloc FB.out.size _
      have FG : Hid (Blk W5 gb (gvs h (.slice (some ⟨g1, 0, none⟩) ds.length c1) nx (.slice (some ⟨g2, 0, none⟩) ps.length c2) tk rc)) := by rw [hW]; exact FG.out.alloc _
      have FD : Hid (OwD W5 (w.heap.size + 2) g1 ds.length c1 ((ds.take i |>.map heldD) ++ ds.drop i)) := by rw [hW]; exact FD.out.alloc _
      have FP : Hid (Ow W5 (w.heap.size + 2) g2 ps.length c2 (ps)) := by rw [hW]; exact FP.out.alloc _
      have FS : Hid (Blk W5 sb ([.int .i64 p.sh.lo.pos, .int .i64 p.sh.lo.vel, .int .i64 p.sh.lo.door, .int .i64 p.sh.up.pos, .int .i64 p.sh.up.vel, .int .i64 p.sh.up.door, .int .i64 p.sp.l.lo, .int .i64 p.sp.l.hi, .int .i64 p.sp.u.lo, .int .i64 p.sp.u.hi, .int .i64 p.pl, .int .i64 p.pu, .bool p.hd])) := by rw [hW]; exact Blk.at_ wr ([.int .i64 p.sh.lo.pos, .int .i64 p.sh.lo.vel, .int .i64 p.sh.lo.door, .int .i64 p.sh.up.pos, .int .i64 p.sh.up.vel, .int .i64 p.sh.up.door, .int .i64 p.sp.l.lo, .int .i64 p.sp.l.hi, .int .i64 p.sp.u.lo, .int .i64 p.sp.u.hi, .int .i64 p.pl, .int .i64 p.pu, .bool p.hd]).toArray _ _ hsb
      rw [← hW, ← hsb]
      clear hW hsb
      have F0 : Hid (Blk W5.drew w.heap.size (gvs h (.slice (some ⟨gd, 0, none⟩) ds.length dc) nx (.slice (some ⟨gp, 0, none⟩) ps.length pc) tk rc)) := F0.out.below (Below.refl _ _).drew F0.out.lt
      have FG : Hid (Blk W5.drew gb (gvs h (.slice (some ⟨g1, 0, none⟩) ds.length c1) nx (.slice (some ⟨g2, 0, none⟩) ps.length c2) tk rc)) := FG.out.below (Below.refl _ _).drew FG.out.lt
      have F1 : Hid (Blk W5.drew (w.heap.size + 1) ([.int .i64 0, .int .i64 0, .int .i64 0, .int .i64 0, .int .i64 0, .int .i64 0, .int .i64 0, .int .i64 0, .int .i64 0, .int .i64 0, .int .i64 0, .int .i64 0, .int .i64 0, .int .i64 0, .slice none 0 0, .int .i64 0, .slice none 0 0, .int .i64 0, .bool false])) := F1.out.below (Below.refl _ _).drew F1.out.lt
      have FD : Hid (OwD W5.drew (w.heap.size + 2) g1 ds.length c1 ((ds.take i |>.map heldD) ++ ds.drop i)) := FD.out.drew
      have HZ : Hid (((ds.take i |>.map heldD) ++ ds.drop i)[i]? = some p) := HZ.out
      have FP : Hid (Ow W5.drew (w.heap.size + 2) g2 ps.length c2 (ps)) := FP.out.drew
      have FS : Hid (Blk W5.drew sb [.int .i64 p.sh.lo.pos, .int .i64 p.sh.lo.vel, .int .i64 p.sh.lo.door, .int .i64 p.sh.up.pos, .int .i64 p.sh.up.vel, .int .i64 p.sh.up.door, .int .i64 p.sp.l.lo, .int .i64 p.sp.l.hi, .int .i64 p.sp.u.lo, .int .i64 p.sp.u.hi, .int .i64 p.pl, .int .i64 p.pu, .bool p.hd]) := FS.out.below (Below.refl _ _).drew FS.out.lt
      have FB : Hid (Below w.heap.size w W5.drew) := FB.out.drew
      have x12 := FG.out.c 12 _ rfl
      refine wp_region_held_drew (S := (fun w'' => Blk w'' sb ([.int .i64 p.sh.lo.pos, .int .i64 p.sh.lo.vel, .int .i64 p.sh.lo.door, .int .i64 p.sh.up.pos, .int .i64 p.sh.up.vel, .int .i64 p.sh.up.door, .int .i64 p.sp.l.lo, .int .i64 p.sp.l.hi, .int .i64 p.sp.u.lo, .int .i64 p.sp.u.hi, .int .i64 p.pl, .int .i64 p.pu, .bool p.hd]) ∧ w''.cell? ⟨gb, 12, none⟩ = some (.slice (some ⟨g1, 0, none⟩) ds.length c1))) (by kernel_rfl) (by (try dsimp only); first | exact ⟨FS.out, x12⟩ | go_keep) (fun hHeld => ?_)
      obtain ⟨v_9, hw1⟩ : ∃ v_9, v_9 = W5.drew := ⟨_, rfl⟩
      have F0 : Hid (Blk v_9 w.heap.size (gvs h (.slice (some ⟨gd, 0, none⟩) ds.length dc) nx (.slice (some ⟨gp, 0, none⟩) ps.length pc) tk rc)) := by rw [hw1]; exact F0.out
      have FG : Hid (Blk v_9 gb (gvs h (.slice (some ⟨g1, 0, none⟩) ds.length c1) nx (.slice (some ⟨g2, 0, none⟩) ps.length c2) tk rc)) := by rw [hw1]; exact FG.out
      have F1 : Hid (Blk v_9 (w.heap.size + 1) ([.int .i64 0, .int .i64 0, .int .i64 0, .int .i64 0, .int .i64 0, .int .i64 0, .int .i64 0, .int .i64 0, .int .i64 0, .int .i64 0, .int .i64 0, .int .i64 0, .int .i64 0, .int .i64 0, .slice none 0 0, .int .i64 0, .slice none 0 0, .int .i64 0, .bool false])) := by rw [hw1]; exact F1.out
      have FD : Hid (OwD v_9 (w.heap.size + 2) g1 ds.length c1 ((ds.take i |>.map heldD) ++ ds.drop i)) := by rw [hw1]; exact FD.out
      have FP : Hid (Ow v_9 (w.heap.size + 2) g2 ps.length c2 (ps)) := by rw [hw1]; exact FP.out
      have FS : Hid (Blk v_9 sb [.int .i64 p.sh.lo.pos, .int .i64 p.sh.lo.vel, .int .i64 p.sh.lo.door, .int .i64 p.sh.up.pos, .int .i64 p.sh.up.vel, .int .i64 p.sh.up.door, .int .i64 p.sp.l.lo, .int .i64 p.sp.l.hi, .int .i64 p.sp.u.lo, .int .i64 p.sp.u.hi, .int .i64 p.pl, .int .i64 p.pu, .bool p.hd]) := by rw [hw1]; exact FS.out
      have FB : Hid (Below w.heap.size w v_9) := by rw [hw1]; exact FB.out
      rw [← hw1] at hHeld ⊢
      clear hw1
      have x12 := FG.out.c 12 _ rfl
      refine tkz 0 rfl ?_
      refine tkz 1 rfl ?_
      refine tkz 2 rfl ?_
      refine tkz 3 rfl ?_ (hy := Or.inl ⟨by kernel_rfl, fun wx hSw => exec_load_blk 61 _ Tryz.underlying61 (by kernel_rfl) rfl rfl hSw.1⟩)
      refine wpAnyH_ready (rs := [4]) (by kernel_rfl) (by simp) ?_
      refine (AllReadyH.cons rfl (fun K hK => ?_) AllReadyH.nil)
      go_simp
      refine (heldDeck_any p _).mono ?_
      rintro e v_10 ⟨rfl, hb⟩
      have F0 : Hid (Blk v_10 w.heap.size (gvs h (.slice (some ⟨gd, 0, none⟩) ds.length dc) nx (.slice (some ⟨gp, 0, none⟩) ps.length pc) tk rc)) := F0.out.below hb F0.out.lt
      have FG : Hid (Blk v_10 gb (gvs h (.slice (some ⟨g1, 0, none⟩) ds.length c1) nx (.slice (some ⟨g2, 0, none⟩) ps.length c2) tk rc)) := FG.out.below hb FG.out.lt
      have F1 : Hid (Blk v_10 (w.heap.size + 1) ([.int .i64 0, .int .i64 0, .int .i64 0, .int .i64 0, .int .i64 0, .int .i64 0, .int .i64 0, .int .i64 0, .int .i64 0, .int .i64 0, .int .i64 0, .int .i64 0, .int .i64 0, .int .i64 0, .slice none 0 0, .int .i64 0, .slice none 0 0, .int .i64 0, .bool false])) := F1.out.below hb F1.out.lt
      have FD : Hid (OwD v_10 (w.heap.size + 2) g1 ds.length c1 ((ds.take i |>.map heldD) ++ ds.drop i)) := FD.out.below hb FD.out.bl.2
      have HZ : Hid (((ds.take i |>.map heldD) ++ ds.drop i)[i]? = some p) := HZ.out
      have FP : Hid (Ow v_10 (w.heap.size + 2) g2 ps.length c2 (ps)) := FP.out.below hb FP.out.bl.2
      have FS : Hid (Blk v_10 sb [.int .i64 p.sh.lo.pos, .int .i64 p.sh.lo.vel, .int .i64 p.sh.lo.door, .int .i64 p.sh.up.pos, .int .i64 p.sh.up.vel, .int .i64 p.sh.up.door, .int .i64 p.sp.l.lo, .int .i64 p.sp.l.hi, .int .i64 p.sp.u.lo, .int .i64 p.sp.u.hi, .int .i64 p.pl, .int .i64 p.pu, .bool p.hd]) := FS.out.below hb FS.out.lt
      have FB : Hid (Below w.heap.size w v_10) := FB.out.trans (hb.mono FB.out.size)
      clear hb
      have x12 := FG.out.c 12 _ rfl
      try dsimp only
      refine hK.out _ _ (by (try dsimp only); first | exact ⟨FS.out, x12⟩ | go_keep) (fun hHeld => ?_)
      clear hK K
      try simp only [Act.put, List.getElem_toArray, List.getElem_cons_succ, List.getElem_cons_zero, List.setIfInBounds_toArray, List.set_cons_zero, List.set_cons_succ]
      refine tkz 5 rfl ?_
      refine wpAnyH_ready (rs := [6]) (by kernel_rfl) (by simp) ?_
      refine (AllReadyH.cons rfl (fun K hK => ?_) AllReadyH.nil)
      obtain ⟨d0, d1, d2, d3, d4, d5, d6, d7, d8, d9, d10, d11, d12⟩ := FD.out.d13 HZ.out
      have df0 := FD.out.fz (i * 13)
      have df1 := FD.out.fz (i * 13 + 1)
      have df2 := FD.out.fz (i * 13 + 2)
      have df3 := FD.out.fz (i * 13 + 3)
      have df4 := FD.out.fz (i * 13 + 4)
      have df5 := FD.out.fz (i * 13 + 5)
      have df6 := FD.out.fz (i * 13 + 6)
      have df7 := FD.out.fz (i * 13 + 7)
      have df8 := FD.out.fz (i * 13 + 8)
      have df9 := FD.out.fz (i * 13 + 9)
      have df10 := FD.out.fz (i * 13 + 10)
      have df11 := FD.out.fz (i * 13 + 11)
      have df12 := FD.out.fz (i * 13 + 12)
      go_simp
      obtain ⟨v_11, hw2⟩ : ∃ v_11, v_11 = putD v_10 g1 (i * 13) (heldD p) := ⟨_, rfl⟩
      change K _ (putD v_10 g1 (i * 13) (heldD p))
      rw [← hw2]
      clear d0 df0 d1 df1 d2 df2 d3 df3 d4 df4 d5 df5 d6 df6 d7 df7 d8 df8 d9 df9 d10 df10 d11 df11 d12 df12
      have F0 : Hid (Blk v_11 w.heap.size (gvs h (.slice (some ⟨gd, 0, none⟩) ds.length dc) nx (.slice (some ⟨gp, 0, none⟩) ps.length pc) tk rc)) := by rw [hw2]; exact F0.out.grown (grown_putD _ _ _ _) (fun e => by have e2 := Option.some.inj e; omega)
      have FG : Hid (Blk v_11 gb (gvs h (.slice (some ⟨g1, 0, none⟩) ds.length c1) nx (.slice (some ⟨g2, 0, none⟩) ps.length c2) tk rc)) := by rw [hw2]; exact FG.out.grown (grown_putD _ _ _ _) (fun e => by have e2 := Option.some.inj e; omega)
      have F1 : Hid (Blk v_11 (w.heap.size + 1) ([.int .i64 0, .int .i64 0, .int .i64 0, .int .i64 0, .int .i64 0, .int .i64 0, .int .i64 0, .int .i64 0, .int .i64 0, .int .i64 0, .int .i64 0, .int .i64 0, .int .i64 0, .int .i64 0, .slice none 0 0, .int .i64 0, .slice none 0 0, .int .i64 0, .bool false])) := by rw [hw2]; exact F1.out.grown (grown_putD _ _ _ _) (fun e => by have e2 := Option.some.inj e; omega)
      have FD : Hid (OwD v_11 (w.heap.size + 2) g1 ds.length c1 (((ds.take i |>.map heldD) ++ ds.drop i).set i (heldD p))) := by rw [hw2]; exact FD.out.put (heldD p) HZ.out
      have HZ : Hid ((((ds.take i |>.map heldD) ++ ds.drop i).set i (heldD p))[i]? = some (heldD p)) := get_setD HZ.out
      have FP : Hid (Ow v_11 (w.heap.size + 2) g2 ps.length c2 (ps)) := by rw [hw2]; exact FP.out.kept (grown_putD _ _ _ _) (fun e => by have e2 := Option.some.inj e; omega)
      have FS : Hid (Blk v_11 sb [.int .i64 p.sh.lo.pos, .int .i64 p.sh.lo.vel, .int .i64 p.sh.lo.door, .int .i64 p.sh.up.pos, .int .i64 p.sh.up.vel, .int .i64 p.sh.up.door, .int .i64 p.sp.l.lo, .int .i64 p.sp.l.hi, .int .i64 p.sp.u.lo, .int .i64 p.sp.u.hi, .int .i64 p.pl, .int .i64 p.pu, .bool p.hd]) := by rw [hw2]; exact FS.out.grown (grown_putD _ _ _ _) (fun e => by have e2 := Option.some.inj e; omega)
      have FB : Hid (Below w.heap.size w v_11) := by rw [hw2]; exact below_putD FB.out (by omega) _ _
      clear hw2
      have x12 := FG.out.c 12 _ rfl
      refine hK.out _ _ (by (try dsimp only); first | exact ⟨FS.out, x12⟩ | go_keep) (fun hHeld => ?_)
      clear hK K
      try simp only [Act.put, List.getElem_toArray, List.getElem_cons_succ, List.getElem_cons_zero, List.setIfInBounds_toArray, List.set_cons_zero, List.set_cons_succ]
      refine wpAnyH_done (by kernel_rfl) ?_ _
      rw [HE.out] at FD
      go_wp2_with fail
      go_roundw
      case rel => exact ⟨i + 1, by simp, by omega, F0.out, FG.out, F1.out, FD.out, FP.out, FB.out⟩
      case measure => simp [intOf]; omega
    · have ei : i = ds.length := by omega
      have FE : Hid (OwD wr (w.heap.size + 2) g1 ds.length c1 (ds.map heldD)) := by
        have q := FD.out
        rw [ei, held_all] at q
        exact q
      clear FD
      subst ei
      have FD : Hid (OwD wr (w.heap.size + 2) g1 ds.length c1 (ds.map heldD)) := FE.out
      have FI : Hid (GI wr gd gp ds ps) := FI0.out.below FB.out LI.out.1 LI.out.2
      have x0 := F0.out.c 0 _ rfl
      have x1 := F0.out.c 1 _ rfl
      have x2 := F0.out.c 2 _ rfl
      have x3 := F0.out.c 3 _ rfl
      have x4 := F0.out.c 4 _ rfl
      have x5 := F0.out.c 5 _ rfl
      have x6 := F0.out.c 6 _ rfl
      have x7 := F0.out.c 7 _ rfl
      have x8 := F0.out.c 8 _ rfl
      have x9 := F0.out.c 9 _ rfl
      have x10 := F0.out.c 10 _ rfl
      have x11 := F0.out.c 11 _ rfl
      have x12 := F0.out.c 12 _ rfl
      have x13 := F0.out.c 13 _ rfl
      have x14 := F0.out.c 14 _ rfl
      go_upto_region 12 with (go_at_call 28; refine ((implDropWaiting_any h ⟨nx, ps⟩ gp 0 pc hlp _ FI.out.lp FI.out.p).mono (fun _ _ q => q.s)).mono ?_; rw [HL.out.1, HL.out.2]; rintro e w7 ⟨pa3, pc3, rfl, ho, hb⟩; rw [List.length_map] at ho; have q1 := F1.out.lt; have n3 : Hid (∀ k, (Value.slice pa3 ps.length pc3).ownBlock = some k → gb < k) := (fun k hk => by have := (ho.lt k hk).1; have := FG.out.lt; omega); have FP : Hid (Own w7 (w.heap.size + 2) (.slice pa3 ps.length pc3) (ps.map dropP)) := Own.base ho (by omega); have FG : Hid (Blk w7 gb (gvs h (.slice (some ⟨g1, 0, none⟩) ds.length c1) nx (.slice (some ⟨g2, 0, none⟩) ps.length c2) tk rc)) := FG.out.below hb FG.out.lt; have F1 : Hid (Blk w7 (w.heap.size + 1) ([.int .i64 0, .int .i64 0, .int .i64 0, .int .i64 0, .int .i64 0, .int .i64 0, .int .i64 0, .int .i64 0, .int .i64 0, .int .i64 0, .int .i64 0, .int .i64 0, .int .i64 0, .int .i64 0, .slice none 0 0, .int .i64 0, .slice none 0 0, .int .i64 0, .bool false])) := F1.out.below hb F1.out.lt; have FD : Hid (OwD w7 (w.heap.size + 2) g1 ds.length c1 (ds.map heldD)) := FD.out.below hb FD.out.bl.2; have FB : Hid (Below w.heap.size w w7) := FB.out.trans (hb.mono FB.out.size); clear hb; clear ho q1; have k13 := FG.out.c 13 _ rfl; have k14 := FG.out.c 14 _ rfl; have kf13 := FG.out.f 13 (Nat.le_of_ble_eq_true rfl); have kf14 := FG.out.f 14 (Nat.le_of_ble_eq_true rfl))
      obtain ⟨W8, hw_⟩ : ∃ W, W = (w7.setCell ⟨gb, 13, none⟩ (.int .i64 nx)).setCell ⟨gb, 14, none⟩ (.slice pa3 ps.length pc3) := ⟨_, rfl⟩
      rw [← hw_]
      have FG : Hid (Blk W8 gb (gvs h (.slice (some ⟨g1, 0, none⟩) ds.length c1) nx (.slice pa3 ps.length pc3) tk rc)) := by rw [hw_]; exact putB_set [.int .i64 nx, .slice pa3 ps.length pc3] _ 13 w7 FG.out (Nat.le_of_ble_eq_true rfl)
      have F1 : Hid (Blk W8 (w.heap.size + 1) ([.int .i64 0, .int .i64 0, .int .i64 0, .int .i64 0, .int .i64 0, .int .i64 0, .int .i64 0, .int .i64 0, .int .i64 0, .int .i64 0, .int .i64 0, .int .i64 0, .int .i64 0, .int .i64 0, .slice none 0 0, .int .i64 0, .slice none 0 0, .int .i64 0, .bool false])) := by rw [hw_]; exact Blk.putB_other (by omega) [.int .i64 nx, .slice pa3 ps.length pc3] 13 F1.out
      have FD : Hid (OwD W8 (w.heap.size + 2) g1 ds.length c1 (ds.map heldD)) := by rw [hw_]; exact OwD.putB (by omega) [.int .i64 nx, .slice pa3 ps.length pc3] 13 _ FD.out
      have FP : Hid (Own W8 (w.heap.size + 2) (.slice pa3 ps.length pc3) (ps.map dropP)) := by rw [hw_]; exact (FP.out.other (p := ⟨gb, 13, none⟩) (fun e => by have := n3.out _ e; exact absurd this (by show ¬ gb < gb; omega)) _).other (p := ⟨gb, 14, none⟩) (fun e => by have := n3.out _ e; exact absurd this (by show ¬ gb < gb; omega)) _
      have FB : Hid (Below w.heap.size w W8) := by rw [hw_]; exact below_putB FB.out (by omega) [.int .i64 nx, .slice pa3 ps.length pc3] 13
      clear hw_ k13 k14 kf13 kf14 x0 x1 x2 x3 x4 x5 x6 x7 x8 x9 x10 x11 x12 x13 x14
      go_wp2_with (first | (refine load_blk 37 _ Tryz.underlying37 (by kernel_rfl) FG.out rfl rfl rfl ?_) | (refine store_blk (rvs 0 0 h (.slice (some ⟨g1, 0, none⟩) ds.length c1) nx (.slice pa3 ps.length pc3) tk rc) 39 _ _ (by kernel_rfl) (by kernel_rfl) (by kernel_rfl) F1.out rfl rfl rfl rfl ?_))
      refine bodyPost_ret (v := .agg #[.int .i64 0, .int .i64 0, .int .i64 h.fl, .int .i64 h.gp, .int .i64 h.ln, .int .i64 h.rf, .int .i64 h.sp, .int .i64 h.pu, .int .i64 h.br, .int .i64 h.dr, .int .i64 h.lv, .int .i64 h.dO, .int .i64 h.ld, .int .i64 h.qu, .slice (some ⟨g1, 0, none⟩) ds.length c1, .int .i64 nx, .slice pa3 ps.length pc3, .int .i64 tk, .bool rc]) ((F1.out.row (rvs 0 0 h (.slice (some ⟨g1, 0, none⟩) ds.length c1) nx (.slice pa3 ps.length pc3) tk rc)).res _ Tryz.results8 Tryz.underlying39 (by kernel_rfl) rfl) rfl ?_
      have o1 := ((FD.out.row (b := w.heap.size + 1) (by have := FD.out.bl.1; omega) (rvs 0 0 h (.slice (some ⟨g1, 0, none⟩) ds.length c1) nx (.slice pa3 ps.length pc3) tk rc).toArray).base (show w.heap.size ≤ w.heap.size + 2 by omega)).own
      have o2 := Own.base (FP.out.kept (grown_row (g := w.heap.size + 1) (rvs 0 0 h (.slice (some ⟨g1, 0, none⟩) ds.length c1) nx (.slice pa3 ps.length pc3) tk rc).toArray) (Or.inr (fun e => by have := n3.out _ e; omega))) (show w.heap.size ≤ w.heap.size + 2 by omega)
      have hq1 : (ds.map heldD).length = ds.length := List.length_map ..
      have hq2 : (ps.map dropP).length = ps.length := List.length_map ..
      exact ⟨some ⟨g1, 0, none⟩, c1, pa3, pc3, by rw [hq1, hq2], by rw [hq1]; exact o1, by rw [hq2]; exact o2, (fun j e1 e2 => by rw [hq2] at e2; have a1 : g1 = j := Option.some.inj e1; have a2 := n3.out _ e2; omega), below_row FB.out (by omega) _⟩
end Go.Proofs.YtfmkanbhnpmpaaaGreat

/-
  A ledger (a number and a slice of people) that came in by value.
-/
namespace Go.Proofs.YtfmkanbhnpmpaaaGreat
open Go.ChangeShapes Go.WideShapes Go.ChangeAt Go.RowKit Go.Joins Pl
set_option linter.unusedSimpArgs false
set_option linter.unusedVariables false

/-- Every number of a person is a number of int64. -/
def wfP (p : Pe) : Prop := ∀ x ∈ [p.id, p.fr, p.tw, p.sh, p.ca, p.st, p.pl], (Lit.int .i64 x).wf = true
def wfL (l : List Pe) : Prop := ∀ p ∈ l, wfP p

theorem list7 {l : List Int} (h : l.length = 7) : ∃ a b c d e f g : Int, l = [a, b, c, d, e, f, g] := by
  match l, h with
  | [a, b, c, d, e, f, g], _ => exact ⟨a, b, c, d, e, f, g, rfl⟩

theorem add_at (b o n : Nat) : (⟨b, o, none⟩ : Addr).add n = ⟨b, o + n, none⟩ := by
  unfold Addr.add
  by_cases h : n = 0 <;> simp [h]

theorem open_led {H : Type} {enc : TypeId × Value → H} {P : Program} {w : World} {base : Nat} {spare : Nat → Bool} {held : Bool} {r : Reach} {b0 : Nat} {t ts te k : TypeId} {fs gs : Array Field} {f0 f1 : Field} {v : Value} {d : DataW H} {p : List MemPlace}
    (hs : P.underlying t = some (.struct fs)) (hsl : P.underlying ts = some (.slice te)) (hg : P.underlying te = some (.struct gs)) (hk : P.underlying k = some (.int .i64)) (hck : P.cellsOf k = 1) (hcs : P.cellsOf ts = 1) (hf : plainFields gs k 7 = true) (hC : P.cellsOf te = 7) (hCC : P.cellsOf t = 2)
    (h0 : fs[0]? = some f0) (t0 : f0.type = k) (o0 : f0.offset = 0) (h1 : fs[1]? = some f1) (t1 : f1.type = ts) (o1 : f1.offset = 1)
    (hv : Value.okWide P w r b0 t v) (h : DataW.Trod enc P w base spare held t v d p) :
    ∃ (x : Lg) (a : Option Addr) (cap : Nat), v = .agg #[.int .i64 x.nx, .slice a x.ps.length cap] ∧ (Lit.int .i64 x.nx).wf = true ∧ wfL x.ps ∧ x.ps.length ≤ maxLen ∧ PIn w w.heap.size a x.ps := by
  obtain ⟨cs, rfl, _⟩ := okWide_struct hs hv
  obtain ⟨fuel, hfu⟩ := h
  obtain ⟨zs, m, _, _, hl, hxl, hall⟩ := DataW.trod_struct hs hfu
  have hl' : cs.toList.length = 2 := by simpa [Value.cells] using hl.trans hCC
  have a0 := hall 0 f0 h0
  have a1 := hall 1 f1 h1
  have z0 : 0 < zs.length := by rw [hxl]; exact (Array.getElem?_eq_some_iff.1 h0).1
  have z1 : 1 < zs.length := by rw [hxl]; exact (Array.getElem?_eq_some_iff.1 h1).1
  rw [List.getElem?_eq_getElem z0, t0, o0, hck] at a0
  rw [List.getElem?_eq_getElem z1, t1, o1, hcs] at a1
  obtain ⟨nx, e0, _, wn⟩ := DataW.trod_int hk a0
  have key : ∀ u : Value, (List.take 1 (List.drop 1 (Value.agg cs).cells.toList)) = [u] → cs = #[.int .i64 nx, u] := by
    intro u hu
    simp only [Value.cells, List.drop_zero] at e0 hu
    have : cs.toList = [.int .i64 nx, u] := by
      match hcl : cs.toList, hl' with
      | [y, z], _ =>
        rw [hcl] at e0 hu
        simp at e0 hu
        rw [e0, hu]
    rw [← this]
  rcases Go.Deep.open_slice hsl a1 with ⟨e1, _⟩ | ⟨a, len, cap, mm, n, D, Pq, e1, hb, hle, hm, hmm, -, hx⟩
  · exact ⟨⟨nx, []⟩, none, 0, by rw [key _ e1]; rfl, wn, fun p hp => absurd hp (List.not_mem_nil), Nat.zero_le _, Or.inl rfl⟩
  · have lm : len ≤ mm := by rw [hmm]; split <;> omega
    have : Inhabited Pe := ⟨⟨0, 0, 0, 0, 0, 0, 0⟩⟩
    obtain ⟨f, hf'⟩ := Go.Deep.choose_lt (α := Pe) (n := len) (p := fun i p => wfP p ∧ ∀ c, c < 7 → w.cell? ((a.add (i * 7)).add c) = [Value.int .i64 p.id, .int .i64 p.fr, .int .i64 p.tw, .int .i64 p.sh, .int .i64 p.ca, .int .i64 p.st, .int .i64 p.pl][c]?) (fun i hi => by
      obtain ⟨cs', g1, g2⟩ := hx i (by omega)
      obtain ⟨xs, x1, x2, x3⟩ := trod_i64s hg hk hck hf hC g2
      obtain ⟨c0, c1, c2, c3, c4, c5, c6, rfl⟩ := list7 x1
      rw [hC] at g1
      obtain ⟨_, _, g3⟩ := World.cells?_some g1
      refine ⟨⟨c0, c1, c2, c3, c4, c5, c6⟩, x3, fun c hc => ?_⟩
      rw [g3 c hc, x2]
      rfl)
    refine ⟨⟨nx, (List.range len).map f⟩, some a, cap, by rw [key _ e1]; simp, wn, ?_, by simp; omega, ?_⟩
    · intro p hp
      obtain ⟨i, hi, rfl⟩ := List.mem_map.1 hp
      exact (hf' i (List.mem_range.1 hi)).1
    · by_cases hz : len = 0
      · left; simp [hz]
      · right
        obtain ⟨b, o, sp⟩ := a
        have hsp : sp = none := by simpa [Addr.add] using World.cell?_spot ((hf' 0 (by omega)).2 0 (by omega))
        subst hsp
        refine ⟨b, o, rfl, ?_, ?_⟩
        · have := (hf' 0 (by omega)).2 0 (by omega)
          simp only [add_at] at this
          exact World.block_lt_of_cell? w _ this
        · intro i p hp
          have hi : i < len := by
            have := (List.getElem?_eq_some_iff.1 hp).1
            simpa using this
          have ep : f i = p := by simpa [hi] using hp
          have hc := (hf' i hi).2
          rw [ep] at hc
          simp only [add_at] at hc
          exact ⟨hc 0 (by omega), hc 1 (by omega), hc 2 (by omega), hc 3 (by omega), hc 4 (by omega), hc 5 (by omega), hc 6 (by omega)⟩
end Go.Proofs.YtfmkanbhnpmpaaaGreat

/-
  A group that came in by value.
-/
namespace Go.Proofs.YtfmkanbhnpmpaaaGreat
open Go.ChangeShapes Go.WideShapes Go.ChangeAt Go.RowKit Go.Joins Pl
set_option linter.unusedSimpArgs false
set_option linter.unusedVariables false

theorem drop_split (cs : List Value) (k n : Nat) : cs.drop k = (cs.drop k).take n ++ cs.drop (k + n) := by
  have : cs.drop (k + n) = (cs.drop k).drop n := by rw [List.drop_drop]
  rw [this, List.take_append_drop]
theorem trod_two {H : Type} {enc : TypeId × Value → H} {P : Program} {w : World} {base : Nat} {spare : Nat → Bool} {held : Bool} {fuel : Nat} {t tc k : TypeId} {fs gs : Array Field} {f0 f1 : Field} {n : Nat} {cs : List Value} {x : DataW H × List MemPlace}
    (hs : P.underlying t = some (.struct fs)) (hg : P.underlying tc = some (.struct gs)) (hk : P.underlying k = some (.int .i64)) (hck : P.cellsOf k = 1) (hf : plainFields gs k n = true) (hC : P.cellsOf tc = n) (hCC : P.cellsOf t = n + n)
    (h0 : fs[0]? = some f0) (t0 : f0.type = tc) (o0 : f0.offset = 0) (h1 : fs[1]? = some f1) (t1 : f1.type = tc) (o1 : f1.offset = n)
    (hfu : DataW.trod enc P w base spare held fuel t cs = some x) :
    ∃ xs ys : List Int, xs.length = n ∧ ys.length = n ∧ cs = (xs ++ ys).map (Value.int .i64) := by
  obtain ⟨zs, m, _, _, hl, hxl, hall⟩ := DataW.trod_struct hs hfu
  have hl' : cs.length = n + n := hl.trans hCC
  have a0 := hall 0 f0 h0
  have a1 := hall 1 f1 h1
  have z0 : 0 < zs.length := by rw [hxl]; exact (Array.getElem?_eq_some_iff.1 h0).1
  have z1 : 1 < zs.length := by rw [hxl]; exact (Array.getElem?_eq_some_iff.1 h1).1
  rw [List.getElem?_eq_getElem z0, t0, o0, hC] at a0
  rw [List.getElem?_eq_getElem z1, t1, o1, hC] at a1
  obtain ⟨xs, x1, x2, _⟩ := trod_i64s hg hk hck hf hC a0
  obtain ⟨ys, y1, y2, _⟩ := trod_i64s hg hk hck hf hC a1
  refine ⟨xs, ys, x1, y1, ?_⟩
  simp only [List.drop_zero] at x2 y2
  rw [List.map_append, ← x2, ← y2]
  have : (cs.drop n).take n = cs.drop n := List.take_of_length_le (by simp; omega)
  rw [this, List.take_append_drop]
theorem list1V {l : List Value} (h : l.length = 1) : ∃ a : Value, l = [a] := by
  match l, h with
  | [a], _ => exact ⟨a, rfl⟩
/-- The shape of a deck's type. -/
structure DeckT (P : Program) (te : TypeId) (tsh tcar tsp tspan k kb : TypeId) (fs fsh gcar fsp gspan : Array Field) (f0 f1 f2 f3 f4 s0 s1 p0 p1 : Field) : Prop where
  hs : P.underlying te = some (.struct fs)
  hsh : P.underlying tsh = some (.struct fsh)
  hcar : P.underlying tcar = some (.struct gcar)
  hsp : P.underlying tsp = some (.struct fsp)
  hspan : P.underlying tspan = some (.struct gspan)
  hk : P.underlying k = some (.int .i64)
  hb : P.underlying kb = some .bool
  ck : P.cellsOf k = 1
  cb : P.cellsOf kb = 1
  pcar : plainFields gcar k 3 = true
  pspan : plainFields gspan k 2 = true
  ccar : P.cellsOf tcar = 3
  cspan : P.cellsOf tspan = 2
  csh : P.cellsOf tsh = 3 + 3
  csp : P.cellsOf tsp = 2 + 2
  cte : P.cellsOf te = 13
  hf0 : fs[0]? = some f0 ∧ f0.type = tsh ∧ f0.offset = 0
  hf1 : fs[1]? = some f1 ∧ f1.type = tsp ∧ f1.offset = 6
  hf2 : fs[2]? = some f2 ∧ f2.type = k ∧ f2.offset = 10
  hf3 : fs[3]? = some f3 ∧ f3.type = k ∧ f3.offset = 11
  hf4 : fs[4]? = some f4 ∧ f4.type = kb ∧ f4.offset = 12
  hs0 : fsh[0]? = some s0 ∧ s0.type = tcar ∧ s0.offset = 0
  hs1 : fsh[1]? = some s1 ∧ s1.type = tcar ∧ s1.offset = 3
  hp0 : fsp[0]? = some p0 ∧ p0.type = tspan ∧ p0.offset = 0
  hp1 : fsp[1]? = some p1 ∧ p1.type = tspan ∧ p1.offset = 2
theorem trod_deck {H : Type} {enc : TypeId × Value → H} {P : Program} {w : World} {base : Nat} {spare : Nat → Bool} {held : Bool} {fuel : Nat} {te tsh tcar tsp tspan k kb : TypeId} {fs fsh gcar fsp gspan : Array Field} {f0 f1 f2 f3 f4 s0 s1 p0 p1 : Field} {cs : List Value} {x : DataW H × List MemPlace}
    (D : DeckT P te tsh tcar tsp tspan k kb fs fsh gcar fsp gspan f0 f1 f2 f3 f4 s0 s1 p0 p1)
    (hfu : DataW.trod enc P w base spare held fuel te cs = some x) : ∃ d : Dk, cs = cellsD d := by
  obtain ⟨zs, m, _, _, hl, hxl, hall⟩ := DataW.trod_struct D.hs hfu
  have hl' : cs.length = 13 := hl.trans D.cte
  have sz : ∀ (i : Nat) (f : Field), fs[i]? = some f → ∃ y, DataW.trod enc P w base spare held m f.type ((cs.drop f.offset).take (P.cellsOf f.type)) = some y := by
    intro i f hf
    have a := hall i f hf
    have z : i < zs.length := by rw [hxl]; exact (Array.getElem?_eq_some_iff.1 hf).1
    rw [List.getElem?_eq_getElem z] at a
    exact ⟨_, a⟩
  obtain ⟨y0, a0⟩ := sz 0 f0 D.hf0.1
  obtain ⟨y1, a1⟩ := sz 1 f1 D.hf1.1
  obtain ⟨y2, a2⟩ := sz 2 f2 D.hf2.1
  obtain ⟨y3, a3⟩ := sz 3 f3 D.hf3.1
  obtain ⟨y4, a4⟩ := sz 4 f4 D.hf4.1
  rw [D.hf0.2.1, D.hf0.2.2, D.csh] at a0
  rw [D.hf1.2.1, D.hf1.2.2, D.csp] at a1
  rw [D.hf2.2.1, D.hf2.2.2, D.ck] at a2
  rw [D.hf3.2.1, D.hf3.2.2, D.ck] at a3
  rw [D.hf4.2.1, D.hf4.2.2, D.cb] at a4
  obtain ⟨xs, ys, x1, y1', e0⟩ := trod_two D.hsh D.hcar D.hk D.ck D.pcar D.ccar D.csh D.hs0.1 D.hs0.2.1 D.hs0.2.2 D.hs1.1 D.hs1.2.1 D.hs1.2.2 a0
  obtain ⟨us, vs, u1, v1, e1⟩ := trod_two D.hsp D.hspan D.hk D.ck D.pspan D.cspan D.csp D.hp0.1 D.hp0.2.1 D.hp0.2.2 D.hp1.1 D.hp1.2.1 D.hp1.2.2 a1
  obtain ⟨pl, e2, _, _⟩ := DataW.trod_int D.hk a2
  obtain ⟨pu, e3, _, _⟩ := DataW.trod_int D.hk a3
  obtain ⟨hd, e4, _⟩ := DataW.trod_bool D.hb a4
  obtain ⟨q0, q1, q2, rfl⟩ := list3 x1
  obtain ⟨q3, q4, q5, rfl⟩ := list3 y1'
  obtain ⟨q6, q7, rfl⟩ := list2 u1
  obtain ⟨q8, q9, rfl⟩ := list2 v1
  refine ⟨⟨⟨⟨q0, q1, q2⟩, ⟨q3, q4, q5⟩⟩, ⟨⟨q6, q7⟩, ⟨q8, q9⟩⟩, pl, pu, hd⟩, ?_⟩
  have s0 := drop_split cs 0 6
  have s1 := drop_split cs 6 4
  have s2 := drop_split cs 10 1
  have s3 := drop_split cs 11 1
  have s4 := drop_split cs 12 1
  have s5 : cs.drop 13 = [] := List.drop_eq_nil_of_le (by omega)
  rw [List.drop_zero] at s0 e0
  rw [s0, e0, s1, e1, s2, e2, s3, e3, s4, e4, s5]
  rfl
theorem open_grp {H : Type} {enc : TypeId × Value → H} {P : Program} {w : World} {base : Nat} {spare : Nat → Bool} {held : Bool} {r : Reach} {b0 : Nat} {t th tds te tl tps tp k kb tsh tcar tsp tspan : TypeId} {gs hs ls ps fs fsh gcar fsp gspan : Array Field} {g0 g1 g2 g3 g4 l0 l1 f0 f1 f2 f3 f4 s0 s1 p0 p1 : Field} {v : Value} {d : DataW H} {p : List MemPlace}
    (D : DeckT P te tsh tcar tsp tspan k kb fs fsh gcar fsp gspan f0 f1 f2 f3 f4 s0 s1 p0 p1)
    (ht : P.underlying t = some (.struct gs)) (hh : P.underlying th = some (.struct hs)) (hds : P.underlying tds = some (.slice te)) (hl : P.underlying tl = some (.struct ls)) (hps : P.underlying tps = some (.slice tp)) (hp : P.underlying tp = some (.struct ps))
    (ph : plainFields hs k 12 = true) (pp : plainFields ps k 7 = true) (ch : P.cellsOf th = 12) (cds : P.cellsOf tds = 1) (cl : P.cellsOf tl = 2) (cps : P.cellsOf tps = 1) (cp : P.cellsOf tp = 7) (ct : P.cellsOf t = 17)
    (hg0 : gs[0]? = some g0 ∧ g0.type = th ∧ g0.offset = 0) (hg1 : gs[1]? = some g1 ∧ g1.type = tds ∧ g1.offset = 12) (hg2 : gs[2]? = some g2 ∧ g2.type = tl ∧ g2.offset = 13) (hg3 : gs[3]? = some g3 ∧ g3.type = k ∧ g3.offset = 15) (hg4 : gs[4]? = some g4 ∧ g4.type = kb ∧ g4.offset = 16)
    (hl0 : ls[0]? = some l0 ∧ l0.type = k ∧ l0.offset = 0) (hl1 : ls[1]? = some l1 ∧ l1.type = tps ∧ l1.offset = 1)
    (hv : Value.okWide P w r b0 t v) (h : DataW.Trod enc P w base spare held t v d p) :
    ∃ (x : Gr) (da : Option Addr) (dc : Nat) (pa : Option Addr) (pc : Nat), v = .agg #[.int .i64 x.h.fl, .int .i64 x.h.gp, .int .i64 x.h.ln, .int .i64 x.h.rf, .int .i64 x.h.sp, .int .i64 x.h.pu, .int .i64 x.h.br, .int .i64 x.h.dr, .int .i64 x.h.lv, .int .i64 x.h.dO, .int .i64 x.h.ld, .int .i64 x.h.qu, .slice da x.ds.length dc, .int .i64 x.led.nx, .slice pa x.led.ps.length pc, .int .i64 x.tk, .bool x.rc] ∧ x.ds.length ≤ maxLen ∧ x.led.ps.length ≤ maxLen ∧ DIn w w.heap.size da x.ds ∧ PIn w w.heap.size pa x.led.ps := by
  obtain ⟨cs, rfl, _⟩ := okWide_struct ht hv
  obtain ⟨fuel, hfu⟩ := h
  obtain ⟨zs, m, _, _, hlen, hxl, hall⟩ := DataW.trod_struct ht hfu
  have hl' : cs.toList.length = 17 := by simpa [Value.cells] using hlen.trans ct
  have sz : ∀ (i : Nat) (f : Field), gs[i]? = some f → ∃ y, DataW.trod enc P w base spare held m f.type ((cs.toList.drop f.offset).take (P.cellsOf f.type)) = some y := by
    intro i f hf
    have a := hall i f hf
    have z : i < zs.length := by rw [hxl]; exact (Array.getElem?_eq_some_iff.1 hf).1
    rw [List.getElem?_eq_getElem z] at a
    exact ⟨_, a⟩
  obtain ⟨y0, a0⟩ := sz 0 g0 hg0.1
  obtain ⟨y1, a1⟩ := sz 1 g1 hg1.1
  obtain ⟨y2, a2⟩ := sz 2 g2 hg2.1
  obtain ⟨y3, a3⟩ := sz 3 g3 hg3.1
  obtain ⟨y4, a4⟩ := sz 4 g4 hg4.1
  rw [hg0.2.1, hg0.2.2, ch] at a0
  rw [hg1.2.1, hg1.2.2, cds] at a1
  rw [hg2.2.1, hg2.2.2, cl] at a2
  rw [hg3.2.1, hg3.2.2, D.ck] at a3
  rw [hg4.2.1, hg4.2.2, D.cb] at a4
  obtain ⟨xs, x1, e0, _⟩ := trod_i64s hh D.hk D.ck ph ch a0
  obtain ⟨tk, e3, _, _⟩ := DataW.trod_int D.hk a3
  obtain ⟨rc, e4, _⟩ := DataW.trod_bool D.hb a4
  obtain ⟨q0, q1, q2, q3, q4, q5, q6, q7, q8, q9, q10, q11, rfl⟩ := list12 x1
  have hD : ∃ (ds : List Dk) (da : Option Addr) (dc : Nat), (cs.toList.drop 12).take 1 = [.slice da ds.length dc] ∧ ds.length ≤ maxLen ∧ DIn w w.heap.size da ds := by
    rcases Go.Deep.open_slice hds a1 with ⟨e1, _⟩ | ⟨a, len, cap, mm, n, D', Pq, e1, hb, hle, hm, hmm, -, hx⟩
    · exact ⟨[], none, 0, e1, Nat.zero_le _, Or.inl rfl⟩
    · have lm : len ≤ mm := by rw [hmm]; split <;> omega
      have : Inhabited Dk := ⟨zeroD⟩
      obtain ⟨f, hf'⟩ := Go.Deep.choose_lt (α := Dk) (n := len) (p := fun i p => ∀ c, c < 13 → w.cell? ((a.add (i * 13)).add c) = (cellsD p)[c]?) (fun i hi => by
        obtain ⟨cs', g1, g2⟩ := hx i (by omega)
        obtain ⟨dd, rfl⟩ := trod_deck D g2
        rw [D.cte] at g1
        obtain ⟨_, _, g3⟩ := World.cells?_some g1
        exact ⟨dd, fun c hc => by rw [g3 c hc]⟩)
      refine ⟨(List.range len).map f, some a, cap, by rw [e1]; simp, by simp; omega, ?_⟩
      by_cases hz : len = 0
      · left; simp [hz]
      · right
        obtain ⟨b, o, sp⟩ := a
        have hsp : sp = none := by simpa [Addr.add] using World.cell?_spot (hf' 0 (by omega) 0 (by omega))
        subst hsp
        have blk : b < w.heap.size := by
          have := hf' 0 (by omega) 0 (by omega)
          simp only [add_at] at this
          exact World.block_lt_of_cell? w _ this
        refine ⟨b, o, rfl, blk, fun i p hp => ?_⟩
        have hi : i < len := by
          have := (List.getElem?_eq_some_iff.1 hp).1
          simpa using this
        have e : p = f i := by simpa [hi] using hp.symm
        subst e
        have c := hf' i hi
        simp only [add_at] at c
        exact ⟨c 0 (by omega), c 1 (by omega), c 2 (by omega), c 3 (by omega), c 4 (by omega), c 5 (by omega), c 6 (by omega), c 7 (by omega), c 8 (by omega), c 9 (by omega), c 10 (by omega), c 11 (by omega), c 12 (by omega)⟩
  have hP : ∃ (nx : Int) (ps : List Pe) (pa : Option Addr) (pc : Nat), (cs.toList.drop 13).take 2 = [.int .i64 nx, .slice pa ps.length pc] ∧ ps.length ≤ maxLen ∧ PIn w w.heap.size pa ps := by
    obtain ⟨zs', m', _, _, hlen', hxl', hall'⟩ := DataW.trod_struct hl a2
    have hl2 : ((cs.toList.drop 13).take 2).length = 2 := hlen'.trans cl
    have b0 := hall' 0 l0 hl0.1
    have b1 := hall' 1 l1 hl1.1
    have z0 : 0 < zs'.length := by rw [hxl']; exact (Array.getElem?_eq_some_iff.1 hl0.1).1
    have z1 : 1 < zs'.length := by rw [hxl']; exact (Array.getElem?_eq_some_iff.1 hl1.1).1
    rw [List.getElem?_eq_getElem z0, hl0.2.1, hl0.2.2, D.ck] at b0
    rw [List.getElem?_eq_getElem z1, hl1.2.1, hl1.2.2, cps] at b1
    obtain ⟨nx, e5, _, _⟩ := DataW.trod_int D.hk b0
    generalize (cs.toList.drop 13).take 2 = c2 at hl2 e5 b1
    have key : ∀ u : Value, List.take 1 (List.drop 1 c2) = [u] → c2 = [.int .i64 nx, u] := by
      intro u hu
      match c2, hl2 with
      | [y, z], _ =>
        simp at e5 hu
        rw [e5, hu]
    rcases Go.Deep.open_slice hps b1 with ⟨e1, _⟩ | ⟨a, len, cap, mm, n, D', Pq, e1, hb, hle, hm, hmm, -, hx⟩
    · exact ⟨nx, [], none, 0, key _ e1, Nat.zero_le _, Or.inl rfl⟩
    · have lm : len ≤ mm := by rw [hmm]; split <;> omega
      have : Inhabited Pe := ⟨⟨0, 0, 0, 0, 0, 0, 0⟩⟩
      obtain ⟨f, hf'⟩ := Go.Deep.choose_lt (α := Pe) (n := len) (p := fun i p => ∀ c, c < 7 → w.cell? ((a.add (i * 7)).add c) = (cells7 p)[c]?) (fun i hi => by
        obtain ⟨cs', g1, g2⟩ := hx i (by omega)
        obtain ⟨xs, x1, x2, x3⟩ := trod_i64s hp D.hk D.ck pp cp g2
        obtain ⟨c0, c1, c2, c3, c4, c5, c6, rfl⟩ := list7 x1
        rw [cp] at g1
        obtain ⟨_, _, g3⟩ := World.cells?_some g1
        refine ⟨⟨c0, c1, c2, c3, c4, c5, c6⟩, fun c hc => ?_⟩
        rw [g3 c hc, x2]
        rfl)
      refine ⟨nx, (List.range len).map f, some a, cap, by rw [key _ e1]; simp, by simp; omega, ?_⟩
      by_cases hz : len = 0
      · left; simp [hz]
      · right
        obtain ⟨b, o, sp⟩ := a
        have hsp : sp = none := by simpa [Addr.add] using World.cell?_spot (hf' 0 (by omega) 0 (by omega))
        subst hsp
        have blk : b < w.heap.size := by
          have := hf' 0 (by omega) 0 (by omega)
          simp only [add_at] at this
          exact World.block_lt_of_cell? w _ this
        refine ⟨b, o, rfl, blk, fun i p hp => ?_⟩
        have hi : i < len := by
          have := (List.getElem?_eq_some_iff.1 hp).1
          simpa using this
        have e : p = f i := by simpa [hi] using hp.symm
        subst e
        have c := hf' i hi
        simp only [add_at] at c
        exact ⟨c 0 (by omega), c 1 (by omega), c 2 (by omega), c 3 (by omega), c 4 (by omega), c 5 (by omega), c 6 (by omega)⟩
  obtain ⟨ds, da, dc, e1, n1, d1⟩ := hD
  obtain ⟨nx, ps', pa, pc, e2, n2, d2⟩ := hP
  refine ⟨⟨⟨q0, q1, q2, q3, q4, q5, q6, q7, q8, q9, q10, q11⟩, ds, ⟨nx, ps'⟩, tk, rc⟩, da, dc, pa, pc, ?_, n1, n2, d1, d2⟩
  have s0 := drop_split cs.toList 0 12
  have s1 := drop_split cs.toList 12 1
  have s2 := drop_split cs.toList 13 2
  have s3 := drop_split cs.toList 15 1
  have s4 := drop_split cs.toList 16 1
  have s5 : cs.toList.drop 17 = [] := List.drop_eq_nil_of_le (by omega)
  rw [List.drop_zero] at s0 e0
  rw [e0, s1, e1, s2, e2, s3, e3, s4, e4, s5] at s0
  have e : cs = (cs.toList).toArray := by simp
  rw [e, s0]
  rfl
end Go.Proofs.YtfmkanbhnpmpaaaGreat
