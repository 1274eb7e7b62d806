/-
  The program's guard: the first of the four pairs that may go.
-/
import Derived.Test.YtclfdfcakmgffaaGuardG
import Derived.Test.YtclfdfcakmgffaaCellsX
import Derived.Deep.WholeRow
import Derived.WalkMore
import Derived.Deep.DeepCutAuto
namespace Go.Proofs.Ytclfdfcakmgffaa
open Go.RowKit Pl
set_option linter.unusedSimpArgs false
set_option linter.unusedVariables false

theorem idx0 (a b a' b' : Cm) (w : World) : (Instr.index 87 (.agg #[.int .i64 a.push, .bool a.brk, .bool a.opn, .int .i64 b.push, .bool b.brk, .bool b.opn, .int .i64 a'.push, .bool a'.brk, .bool a'.opn, .int .i64 b.push, .bool b.brk, .bool b.opn, .int .i64 a.push, .bool a.brk, .bool a.opn, .int .i64 b'.push, .bool b'.brk, .bool b'.opn, .int .i64 a'.push, .bool a'.brk, .bool a'.opn, .int .i64 b'.push, .bool b'.brk, .bool b'.opn]) (.int .i64 0)).run Try.prog w = .ok (.agg #[.int .i64 a.push, .bool a.brk, .bool a.opn, .int .i64 b.push, .bool b.brk, .bool b.opn]) w := by kernel_rfl
theorem idx1 (a b a' b' : Cm) (w : World) : (Instr.index 87 (.agg #[.int .i64 a.push, .bool a.brk, .bool a.opn, .int .i64 b.push, .bool b.brk, .bool b.opn, .int .i64 a'.push, .bool a'.brk, .bool a'.opn, .int .i64 b.push, .bool b.brk, .bool b.opn, .int .i64 a.push, .bool a.brk, .bool a.opn, .int .i64 b'.push, .bool b'.brk, .bool b'.opn, .int .i64 a'.push, .bool a'.brk, .bool a'.opn, .int .i64 b'.push, .bool b'.brk, .bool b'.opn]) (.int .i64 1)).run Try.prog w = .ok (.agg #[.int .i64 a'.push, .bool a'.brk, .bool a'.opn, .int .i64 b.push, .bool b.brk, .bool b.opn]) w := by kernel_rfl
theorem idx2 (a b a' b' : Cm) (w : World) : (Instr.index 87 (.agg #[.int .i64 a.push, .bool a.brk, .bool a.opn, .int .i64 b.push, .bool b.brk, .bool b.opn, .int .i64 a'.push, .bool a'.brk, .bool a'.opn, .int .i64 b.push, .bool b.brk, .bool b.opn, .int .i64 a.push, .bool a.brk, .bool a.opn, .int .i64 b'.push, .bool b'.brk, .bool b'.opn, .int .i64 a'.push, .bool a'.brk, .bool a'.opn, .int .i64 b'.push, .bool b'.brk, .bool b'.opn]) (.int .i64 2)).run Try.prog w = .ok (.agg #[.int .i64 a.push, .bool a.brk, .bool a.opn, .int .i64 b'.push, .bool b'.brk, .bool b'.opn]) w := by kernel_rfl
theorem idx3 (a b a' b' : Cm) (w : World) : (Instr.index 87 (.agg #[.int .i64 a.push, .bool a.brk, .bool a.opn, .int .i64 b.push, .bool b.brk, .bool b.opn, .int .i64 a'.push, .bool a'.brk, .bool a'.opn, .int .i64 b.push, .bool b.brk, .bool b.opn, .int .i64 a.push, .bool a.brk, .bool a.opn, .int .i64 b'.push, .bool b'.brk, .bool b'.opn, .int .i64 a'.push, .bool a'.brk, .bool a'.opn, .int .i64 b'.push, .bool b'.brk, .bool b'.opn]) (.int .i64 3)).run Try.prog w = .ok (.agg #[.int .i64 a'.push, .bool a'.brk, .bool a'.opn, .int .i64 b'.push, .bool b'.brk, .bool b'.opn]) w := by kernel_rfl
theorem put_all {ops : Array Oper} {rest : List Oper} {o : Oper} {act : Act} {Q : Exit → Act → World → Prop} (a b a' b' : Cm) (w : World) (x y : Operand) (hgd : o.guard = none) (ho : o.op = .store 87 x y) (hx : act.eval x = .pointer (some ⟨w.heap.size, 0, none⟩)) (hy : act.eval y = .agg #[.int .i64 a.push, .bool a.brk, .bool a.opn, .int .i64 b.push, .bool b.brk, .bool b.opn, .int .i64 a'.push, .bool a'.brk, .bool a'.opn, .int .i64 b.push, .bool b.brk, .bool b.opn, .int .i64 a.push, .bool a.brk, .bool a.opn, .int .i64 b'.push, .bool b'.brk, .bool b'.opn, .int .i64 a'.push, .bool a'.brk, .bool a'.opn, .int .i64 b'.push, .bool b'.brk, .bool b'.opn]) (h : wpList Try.prog ops Q rest (act.put o.dst undef) (w.alloc (.cells #[.int .i64 a.push, .bool a.brk, .bool a.opn, .int .i64 b.push, .bool b.brk, .bool b.opn, .int .i64 a'.push, .bool a'.brk, .bool a'.opn, .int .i64 b.push, .bool b.brk, .bool b.opn, .int .i64 a.push, .bool a.brk, .bool a.opn, .int .i64 b'.push, .bool b'.brk, .bool b'.opn, .int .i64 a'.push, .bool a'.brk, .bool a'.opn, .int .i64 b'.push, .bool b'.brk, .bool b'.opn] 87))) :
    wpList Try.prog ops Q (o :: rest) act (w.alloc (.cells #[.int .i64 0, .bool false, .bool false, .int .i64 0, .bool false, .bool false, .int .i64 0, .bool false, .bool false, .int .i64 0, .bool false, .bool false, .int .i64 0, .bool false, .bool false, .int .i64 0, .bool false, .bool false, .int .i64 0, .bool false, .bool false, .int .i64 0, .bool false, .bool false] 87)) := by
  refine wpList_store_row hgd 87 x y ho w.heap.size #[.int .i64 a.push, .bool a.brk, .bool a.opn, .int .i64 b.push, .bool b.brk, .bool b.opn, .int .i64 a'.push, .bool a'.brk, .bool a'.opn, .int .i64 b.push, .bool b.brk, .bool b.opn, .int .i64 a.push, .bool a.brk, .bool a.opn, .int .i64 b'.push, .bool b'.brk, .bool b'.opn, .int .i64 a'.push, .bool a'.brk, .bool a'.opn, .int .i64 b'.push, .bool b'.brk, .bool b'.opn] hx hy 87 #[.int .i64 0, .bool false, .bool false, .int .i64 0, .bool false, .bool false, .int .i64 0, .bool false, .bool false, .int .i64 0, .bool false, .bool false, .int .i64 0, .bool false, .bool false, .int .i64 0, .bool false, .bool false, .int .i64 0, .bool false, .bool false, .int .i64 0, .bool false, .bool false] (heap_alloc_last w _) (by kernel_rfl) rfl (by kernel_rfl) ?_
  rw [World.setRow_alloc_new]
  exact h
theorem get_all {ops : Array Oper} {rest : List Oper} {o : Oper} {act : Act} {w : World} {Q : Exit → Act → World → Prop} (a b a' b' : Cm) (g : Nat) (x : Operand) (hgd : o.guard = none) (ho : o.op = .load 87 x) (hx : act.eval x = .pointer (some ⟨g, 0, none⟩)) (hg : w.heap[g]? = some (.cells #[.int .i64 a.push, .bool a.brk, .bool a.opn, .int .i64 b.push, .bool b.brk, .bool b.opn, .int .i64 a'.push, .bool a'.brk, .bool a'.opn, .int .i64 b.push, .bool b.brk, .bool b.opn, .int .i64 a.push, .bool a.brk, .bool a.opn, .int .i64 b'.push, .bool b'.brk, .bool b'.opn, .int .i64 a'.push, .bool a'.brk, .bool a'.opn, .int .i64 b'.push, .bool b'.brk, .bool b'.opn] 87)) (h : wpList Try.prog ops Q rest (act.put o.dst (.agg #[.int .i64 a.push, .bool a.brk, .bool a.opn, .int .i64 b.push, .bool b.brk, .bool b.opn, .int .i64 a'.push, .bool a'.brk, .bool a'.opn, .int .i64 b.push, .bool b.brk, .bool b.opn, .int .i64 a.push, .bool a.brk, .bool a.opn, .int .i64 b'.push, .bool b'.brk, .bool b'.opn, .int .i64 a'.push, .bool a'.brk, .bool a'.opn, .int .i64 b'.push, .bool b'.brk, .bool b'.opn])) w) :
    wpList Try.prog ops Q (o :: rest) act w := wpList_load_row hgd 87 x ho g hx 87 #[.int .i64 a.push, .bool a.brk, .bool a.opn, .int .i64 b.push, .bool b.brk, .bool b.opn, .int .i64 a'.push, .bool a'.brk, .bool a'.opn, .int .i64 b.push, .bool b.brk, .bool b.opn, .int .i64 a.push, .bool a.brk, .bool a.opn, .int .i64 b'.push, .bool b'.brk, .bool b'.opn, .int .i64 a'.push, .bool a'.brk, .bool a'.opn, .int .i64 b'.push, .bool b'.brk, .bool b'.opn] (0, 0) (.array 4 66) hg (by kernel_rfl) rfl (by kernel_rfl) h
theorem heap_alloc_old {w : World} {b : Nat} {x : Obj} (h : w.heap[b]? = some x) (o : Obj) : (w.alloc o).heap[b]? = some x := by
  show (w.heap.push o)[b]? = some x
  have hl := (Array.getElem?_eq_some_iff.1 h).1
  rw [Array.getElem?_push, if_neg (by omega)]
  exact h
set_option maxRecDepth 20000 in
set_option maxHeartbeats 16000000 in
theorem guarded_any (h : Hs) (s : Sh) (a b : Cm) (hs : h.shaft s = 0) (a1 : -h.pu ≤ a.push) (a2 : a.push ≤ h.pu) (b1 : -h.pu ≤ b.push) (b2 : b.push ≤ h.pu) (g : Cm × Cm) (hg : Hs.grd h s a b = g) (w : World) :
    Calls Try.prog 38 #[.agg #[.int .i64 h.fl, .int .i64 h.gp, .int .i64 h.ln, .int .i64 h.rf, .int .i64 h.sp, .int .i64 h.pu, .int .i64 h.br, .int .i64 h.dr, .int .i64 h.lv, .int .i64 h.dO, .int .i64 h.ld, .int .i64 h.qu], .agg #[.int .i64 s.lo.pos, .int .i64 s.lo.vel, .int .i64 s.lo.door, .int .i64 s.up.pos, .int .i64 s.up.vel, .int .i64 s.up.door], .agg #[.int .i64 a.push, .bool a.brk, .bool a.opn, .int .i64 b.push, .bool b.brk, .bool b.opn]] w fun e w' => e = .returned (.agg #[.int .i64 g.1.push, .bool g.1.brk, .bool g.1.opn, .int .i64 g.2.push, .bool g.2.brk, .bool g.2.opn]) ∧ Below w.heap.size w w' := by
  obtain ⟨k1, k2, _, _, _⟩ := shaft_parts hs
  have kl := Hs.car_zero k1
  have p0 := kl.ok.pu1
  obtain ⟨a', ha'⟩ : ∃ a', brkFor s.lo a = a' := ⟨_, rfl⟩
  obtain ⟨b', hb'⟩ : ∃ b', brkFor s.up b = b' := ⟨_, rfl⟩
  have a3 : -h.pu ≤ a'.push ∧ a'.push ≤ h.pu := by rw [← ha']; unfold brkFor; split; exact ⟨a1, a2⟩; dsimp only; omega
  have b3 : -h.pu ≤ b'.push ∧ b'.push ≤ h.pu := by rw [← hb']; unfold brkFor; split; exact ⟨b1, b2⟩; dsimp only; omega
  have HE : Hid (g = if Hs.may h s a b = true then (a, b) else if Hs.may h s a' b = true then (a', b) else if Hs.may h s a b' = true then (a, b') else (a', b')) := by rw [← hg]; unfold Hs.grd; rw [ha', hb']; exact rfl
  have HM : Hid (Hs.may h s a' b' = true) := by have := may_brakes hs a b; rw [ha', hb'] at this; exact this
  have HA : Hid (brkFor s.lo a = a') := ha'
  have HB : Hid (brkFor s.up b = b') := hb'
  have HL : Hid (CarOk h s.lo) := kl
  have HU : Hid (CarOk h s.up) := Hs.car_zero k2
  obtain ⟨a31, a32⟩ := a3
  obtain ⟨b31, b32⟩ := b3
  clear kl k1 k2 ha' hb' hg hs
  obtain ⟨p, hp⟩ : ∃ p : Pr, p = ⟨a, b⟩ := ⟨_, rfl⟩
  have ep : (.agg #[.int .i64 a.push, .bool a.brk, .bool a.opn, .int .i64 b.push, .bool b.brk, .bool b.opn] : Value) = .agg #[.int .i64 p.a.push, .bool p.a.brk, .bool p.a.opn, .int .i64 p.b.push, .bool p.b.brk, .bool p.b.opn] := by rw [hp]
  rw [ep]
  have HP : Hid (p = ⟨a, b⟩) := hp
  clear hp ep
  obtain ⟨W0, hW0⟩ : ∃ W0, W0 = ((((w.alloc (.cells #[.int .i64 h.fl, .int .i64 h.gp, .int .i64 h.ln, .int .i64 h.rf, .int .i64 h.sp, .int .i64 h.pu, .int .i64 h.br, .int .i64 h.dr, .int .i64 h.lv, .int .i64 h.dO, .int .i64 h.ld, .int .i64 h.qu] 25)).alloc (.cells #[.int .i64 s.lo.pos, .int .i64 s.lo.vel, .int .i64 s.lo.door, .int .i64 s.up.pos, .int .i64 s.up.vel, .int .i64 s.up.door] 40)).alloc (.cells #[.int .i64 p.a.push, .bool p.a.brk, .bool p.a.opn, .int .i64 p.b.push, .bool p.b.brk, .bool p.b.opn] 66)).alloc (.cells #[.int .i64 0, .bool false, .bool false, .int .i64 0, .bool false, .bool false] 66)) := ⟨_, rfl⟩
  have F0 : Hid (HAt ((((w.alloc (.cells #[.int .i64 h.fl, .int .i64 h.gp, .int .i64 h.ln, .int .i64 h.rf, .int .i64 h.sp, .int .i64 h.pu, .int .i64 h.br, .int .i64 h.dr, .int .i64 h.lv, .int .i64 h.dO, .int .i64 h.ld, .int .i64 h.qu] 25)).alloc (.cells #[.int .i64 s.lo.pos, .int .i64 s.lo.vel, .int .i64 s.lo.door, .int .i64 s.up.pos, .int .i64 s.up.vel, .int .i64 s.up.door] 40)).alloc (.cells #[.int .i64 p.a.push, .bool p.a.brk, .bool p.a.opn, .int .i64 p.b.push, .bool p.b.brk, .bool p.b.opn] 66)).alloc (.cells #[.int .i64 0, .bool false, .bool false, .int .i64 0, .bool false, .bool false] 66)) w.heap.size h) := (((HAt.at_ w h _ _ (by simp)).alloc _).alloc _).alloc _
  have F1 : Hid (SW ((((w.alloc (.cells #[.int .i64 h.fl, .int .i64 h.gp, .int .i64 h.ln, .int .i64 h.rf, .int .i64 h.sp, .int .i64 h.pu, .int .i64 h.br, .int .i64 h.dr, .int .i64 h.lv, .int .i64 h.dO, .int .i64 h.ld, .int .i64 h.qu] 25)).alloc (.cells #[.int .i64 s.lo.pos, .int .i64 s.lo.vel, .int .i64 s.lo.door, .int .i64 s.up.pos, .int .i64 s.up.vel, .int .i64 s.up.door] 40)).alloc (.cells #[.int .i64 p.a.push, .bool p.a.brk, .bool p.a.opn, .int .i64 p.b.push, .bool p.b.brk, .bool p.b.opn] 66)).alloc (.cells #[.int .i64 0, .bool false, .bool false, .int .i64 0, .bool false, .bool false] 66)) (w.heap.size + 1) s) := ((SW.at_ (w.alloc (.cells #[.int .i64 h.fl, .int .i64 h.gp, .int .i64 h.ln, .int .i64 h.rf, .int .i64 h.sp, .int .i64 h.pu, .int .i64 h.br, .int .i64 h.dr, .int .i64 h.lv, .int .i64 h.dO, .int .i64 h.ld, .int .i64 h.qu] 25)) s _ _ (by simp)).alloc _).alloc _
  have F2 : Hid (JW ((((w.alloc (.cells #[.int .i64 h.fl, .int .i64 h.gp, .int .i64 h.ln, .int .i64 h.rf, .int .i64 h.sp, .int .i64 h.pu, .int .i64 h.br, .int .i64 h.dr, .int .i64 h.lv, .int .i64 h.dO, .int .i64 h.ld, .int .i64 h.qu] 25)).alloc (.cells #[.int .i64 s.lo.pos, .int .i64 s.lo.vel, .int .i64 s.lo.door, .int .i64 s.up.pos, .int .i64 s.up.vel, .int .i64 s.up.door] 40)).alloc (.cells #[.int .i64 p.a.push, .bool p.a.brk, .bool p.a.opn, .int .i64 p.b.push, .bool p.b.brk, .bool p.b.opn] 66)).alloc (.cells #[.int .i64 0, .bool false, .bool false, .int .i64 0, .bool false, .bool false] 66)) (w.heap.size + 2) p) := (JW.at_ ((w.alloc (.cells #[.int .i64 h.fl, .int .i64 h.gp, .int .i64 h.ln, .int .i64 h.rf, .int .i64 h.sp, .int .i64 h.pu, .int .i64 h.br, .int .i64 h.dr, .int .i64 h.lv, .int .i64 h.dO, .int .i64 h.ld, .int .i64 h.qu] 25)).alloc (.cells #[.int .i64 s.lo.pos, .int .i64 s.lo.vel, .int .i64 s.lo.door, .int .i64 s.up.pos, .int .i64 s.up.vel, .int .i64 s.up.door] 40)) p _ _ (by simp)).alloc _
  have F3 : Hid (RJ ((((w.alloc (.cells #[.int .i64 h.fl, .int .i64 h.gp, .int .i64 h.ln, .int .i64 h.rf, .int .i64 h.sp, .int .i64 h.pu, .int .i64 h.br, .int .i64 h.dr, .int .i64 h.lv, .int .i64 h.dO, .int .i64 h.ld, .int .i64 h.qu] 25)).alloc (.cells #[.int .i64 s.lo.pos, .int .i64 s.lo.vel, .int .i64 s.lo.door, .int .i64 s.up.pos, .int .i64 s.up.vel, .int .i64 s.up.door] 40)).alloc (.cells #[.int .i64 p.a.push, .bool p.a.brk, .bool p.a.opn, .int .i64 p.b.push, .bool p.b.brk, .bool p.b.opn] 66)).alloc (.cells #[.int .i64 0, .bool false, .bool false, .int .i64 0, .bool false, .bool false] 66)) (w.heap.size + 3)) := RJ.at_ (((w.alloc (.cells #[.int .i64 h.fl, .int .i64 h.gp, .int .i64 h.ln, .int .i64 h.rf, .int .i64 h.sp, .int .i64 h.pu, .int .i64 h.br, .int .i64 h.dr, .int .i64 h.lv, .int .i64 h.dO, .int .i64 h.ld, .int .i64 h.qu] 25)).alloc (.cells #[.int .i64 s.lo.pos, .int .i64 s.lo.vel, .int .i64 s.lo.door, .int .i64 s.up.pos, .int .i64 s.up.vel, .int .i64 s.up.door] 40)).alloc (.cells #[.int .i64 p.a.push, .bool p.a.brk, .bool p.a.opn, .int .i64 p.b.push, .bool p.b.brk, .bool p.b.opn] 66)) _ _ (by simp)
  have FB : Hid (Below w.heap.size w ((((w.alloc (.cells #[.int .i64 h.fl, .int .i64 h.gp, .int .i64 h.ln, .int .i64 h.rf, .int .i64 h.sp, .int .i64 h.pu, .int .i64 h.br, .int .i64 h.dr, .int .i64 h.lv, .int .i64 h.dO, .int .i64 h.ld, .int .i64 h.qu] 25)).alloc (.cells #[.int .i64 s.lo.pos, .int .i64 s.lo.vel, .int .i64 s.lo.door, .int .i64 s.up.pos, .int .i64 s.up.vel, .int .i64 s.up.door] 40)).alloc (.cells #[.int .i64 p.a.push, .bool p.a.brk, .bool p.a.opn, .int .i64 p.b.push, .bool p.b.brk, .bool p.b.opn] 66)).alloc (.cells #[.int .i64 0, .bool false, .bool false, .int .i64 0, .bool false, .bool false] 66))) := (((((Below.refl _ _).alloc (Nat.le_refl _) _).alloc (by simp <;> omega) _).alloc (by simp <;> omega) _).alloc (by simp <;> omega) _)
  rw [← hW0] at F0 F1 F2 F3 FB
  have HW0 : Hid (W0 = ((((w.alloc (.cells #[.int .i64 h.fl, .int .i64 h.gp, .int .i64 h.ln, .int .i64 h.rf, .int .i64 h.sp, .int .i64 h.pu, .int .i64 h.br, .int .i64 h.dr, .int .i64 h.lv, .int .i64 h.dO, .int .i64 h.ld, .int .i64 h.qu] 25)).alloc (.cells #[.int .i64 s.lo.pos, .int .i64 s.lo.vel, .int .i64 s.lo.door, .int .i64 s.up.pos, .int .i64 s.up.vel, .int .i64 s.up.door] 40)).alloc (.cells #[.int .i64 p.a.push, .bool p.a.brk, .bool p.a.opn, .int .i64 p.b.push, .bool p.b.brk, .bool p.b.opn] 66)).alloc (.cells #[.int .i64 0, .bool false, .bool false, .int .i64 0, .bool false, .bool false] 66))) := hW0
  clear hW0
  go_enter Try.func38, Try.ntmps38
  go_wp2_with fail
  go_step3
  go_upto_region 1 with fail
  rw [← HW0.out]
  clear HW0
  go_cut [7, 8] (fun t u wx => ∃ b7 b8 : Nat, t = .pointer (some ⟨b7, 0, none⟩) ∧ u = .pointer (some ⟨b8, 0, none⟩) ∧ w.heap.size + 3 < b7 ∧ w.heap.size + 3 < b8 ∧ b7 ≠ b8 ∧ HAt wx w.heap.size h ∧ SW wx (w.heap.size + 1) s ∧ JW wx (w.heap.size + 2) p ∧ RJ wx (w.heap.size + 3) ∧ VCmd wx b7 a' ∧ VCmd wx b8 b' ∧ Below w.heap.size w wx)
  case first =>
   as_aux_lemma =>
    have E0 := F0
    have E1 := F1
    have E2 := F2
    clear F0 F1 F2 HE HM HL HU a1 a2 b1 b2 a31 a32 b31 b32 p0
    have F0 : Hid (SW W0 (w.heap.size + 1) s) := E1
    have F1 : Hid (JW W0 (w.heap.size + 2) p) := E2
    have F2 : Hid (HAt W0 w.heap.size h) := E0
    clear E0 E1 E2
    replace F0 : Hid (SW W0.drew (w.heap.size + 1) s) := F0.out.below (Below.refl _ _).drew F0.out.lt
    replace F1 : Hid (JW W0.drew (w.heap.size + 2) p) := F1.out.below (Below.refl _ _).drew F1.out.lt
    replace F2 : Hid (HAt W0.drew w.heap.size h) := F2.out.below (Below.refl _ _).drew F2.out.lt
    replace F3 : Hid (RJ W0.drew (w.heap.size + 3)) := F3.out.below (Below.refl _ _).drew F3.out.lt
    replace FB : Hid (Below w.heap.size w W0.drew) := FB.out.drew
    obtain ⟨x0_0, x0_1, x0_2, x0_3, x0_4, x0_5, y0_0, y0_1, y0_2, y0_3, y0_4, y0_5⟩ := F0.out
    obtain ⟨x1_0, x1_1, x1_2, x1_3, x1_4, x1_5, y1_0, y1_1, y1_2, y1_3, y1_4, y1_5⟩ := F1.out
    refine wp_region_held_drew (S := (fun w'' => w''.cell? ⟨(w.heap.size + 1), 0, none⟩ = some (.int .i64 s.lo.pos) ∧ w''.cell? ⟨(w.heap.size + 1), 1, none⟩ = some (.int .i64 s.lo.vel) ∧ w''.cell? ⟨(w.heap.size + 1), 2, none⟩ = some (.int .i64 s.lo.door) ∧ w''.cell? ⟨(w.heap.size + 1), 3, none⟩ = some (.int .i64 s.up.pos) ∧ w''.cell? ⟨(w.heap.size + 1), 4, none⟩ = some (.int .i64 s.up.vel) ∧ w''.cell? ⟨(w.heap.size + 1), 5, none⟩ = some (.int .i64 s.up.door) ∧ w''.cell? ⟨(w.heap.size + 2), 0, none⟩ = some (.int .i64 p.a.push) ∧ w''.cell? ⟨(w.heap.size + 2), 1, none⟩ = some (.bool p.a.brk) ∧ w''.cell? ⟨(w.heap.size + 2), 2, none⟩ = some (.bool p.a.opn) ∧ w''.cell? ⟨(w.heap.size + 2), 3, none⟩ = some (.int .i64 p.b.push) ∧ w''.cell? ⟨(w.heap.size + 2), 4, none⟩ = some (.bool p.b.brk) ∧ w''.cell? ⟨(w.heap.size + 2), 5, none⟩ = some (.bool p.b.opn))) (by kernel_rfl) (by (try dsimp only); first | exact ⟨x0_0, x0_1, x0_2, x0_3, x0_4, x0_5, x1_0, x1_1, x1_2, x1_3, x1_4, x1_5⟩ | go_keep) (fun hHeld => ?_)
    obtain ⟨v_1, hw1⟩ : ∃ v_1, v_1 = W0.drew := ⟨_, rfl⟩
    replace F0 : Hid (SW v_1 (w.heap.size + 1) s) := by rw [hw1]; exact F0.out
    replace F1 : Hid (JW v_1 (w.heap.size + 2) p) := by rw [hw1]; exact F1.out
    replace F2 : Hid (HAt v_1 w.heap.size h) := by rw [hw1]; exact F2.out
    replace F3 : Hid (RJ v_1 (w.heap.size + 3)) := by rw [hw1]; exact F3.out
    replace FB : Hid (Below w.heap.size w v_1) := by rw [hw1]; exact FB.out
    rw [← hw1] at hHeld ⊢
    clear hw1
    clear x0_0 x0_1 x0_2 x0_3 x0_4 x0_5 x1_0 x1_1 x1_2 x1_3 x1_4 x1_5
    obtain ⟨x0_0, x0_1, x0_2, x0_3, x0_4, x0_5, y0_0, y0_1, y0_2, y0_3, y0_4, y0_5⟩ := F0.out
    obtain ⟨x1_0, x1_1, x1_2, x1_3, x1_4, x1_5, y1_0, y1_1, y1_2, y1_3, y1_4, y1_5⟩ := F1.out
    refine tkz 0 rfl ?_
    refine tkz 1 rfl ?_
    refine tkz 2 rfl ?_
    refine tkz 3 rfl ?_
    refine tkz 5 rfl ?_
    refine tkz 6 rfl ?_
    refine tkz 7 rfl ?_
    refine tkz 8 rfl ?_
    refine wpAnyH_ready (rs := [4, 10, 11]) (by kernel_rfl) (by simp) ?_
    refine (AllReadyH.cons rfl (fun K hK => ?_) (AllReadyH.cons rfl (fun K hK => ?_) (AllReadyH.cons rfl (fun K hK => ?_) AllReadyH.nil)))
    · go_simp
      refine (heldBack_any s.lo p.a a' (by rw [HP.out]; exact HA.out) _).mono ?_
      rintro e v_2 ⟨rfl, hb⟩
      replace F0 : Hid (SW v_2 (w.heap.size + 1) s) := F0.out.below hb F0.out.lt
      replace F1 : Hid (JW v_2 (w.heap.size + 2) p) := F1.out.below hb F1.out.lt
      replace F2 : Hid (HAt v_2 w.heap.size h) := F2.out.below hb F2.out.lt
      replace F3 : Hid (RJ v_2 (w.heap.size + 3)) := F3.out.below hb F3.out.lt
      replace FB : Hid (Below w.heap.size w v_2) := FB.out.trans (hb.mono FB.out.size)
      clear hb
      clear x0_0 x0_1 x0_2 x0_3 x0_4 x0_5 x1_0 x1_1 x1_2 x1_3 x1_4 x1_5
      obtain ⟨x0_0, x0_1, x0_2, x0_3, x0_4, x0_5, y0_0, y0_1, y0_2, y0_3, y0_4, y0_5⟩ := F0.out
      obtain ⟨x1_0, x1_1, x1_2, x1_3, x1_4, x1_5, y1_0, y1_1, y1_2, y1_3, y1_4, y1_5⟩ := F1.out
      try dsimp only
      refine hK.out _ _ (by (try dsimp only); first | exact ⟨x0_0, x0_1, x0_2, x0_3, x0_4, x0_5, x1_0, x1_1, x1_2, x1_3, x1_4, x1_5⟩ | go_keep) (fun hHeld => ?_)
      clear hK K
      try simp only [Act.put, List.getElem_toArray, List.getElem_cons_succ, List.getElem_cons_zero, List.setIfInBounds_toArray, List.set_cons_zero, List.set_cons_succ]
      refine wpAnyH_ready (rs := [9, 10, 11]) (by kernel_rfl) (by simp) ?_
      refine (AllReadyH.cons rfl (fun K hK => ?_) (AllReadyH.cons rfl (fun K hK => ?_) (AllReadyH.cons rfl (fun K hK => ?_) AllReadyH.nil)))
      · go_simp
        refine (heldBack_any s.up p.b b' (by rw [HP.out]; exact HB.out) _).mono ?_
        rintro e v_3 ⟨rfl, hb⟩
        replace F0 : Hid (SW v_3 (w.heap.size + 1) s) := F0.out.below hb F0.out.lt
        replace F1 : Hid (JW v_3 (w.heap.size + 2) p) := F1.out.below hb F1.out.lt
        replace F2 : Hid (HAt v_3 w.heap.size h) := F2.out.below hb F2.out.lt
        replace F3 : Hid (RJ v_3 (w.heap.size + 3)) := F3.out.below hb F3.out.lt
        replace FB : Hid (Below w.heap.size w v_3) := FB.out.trans (hb.mono FB.out.size)
        clear hb
        clear x0_0 x0_1 x0_2 x0_3 x0_4 x0_5 x1_0 x1_1 x1_2 x1_3 x1_4 x1_5
        obtain ⟨x0_0, x0_1, x0_2, x0_3, x0_4, x0_5, y0_0, y0_1, y0_2, y0_3, y0_4, y0_5⟩ := F0.out
        obtain ⟨x1_0, x1_1, x1_2, x1_3, x1_4, x1_5, y1_0, y1_1, y1_2, y1_3, y1_4, y1_5⟩ := F1.out
        try dsimp only
        refine hK.out _ _ (by (try dsimp only); first | exact ⟨x0_0, x0_1, x0_2, x0_3, x0_4, x0_5, x1_0, x1_1, x1_2, x1_3, x1_4, x1_5⟩ | go_keep) (fun hHeld => ?_)
        clear hK K
        try simp only [Act.put, List.getElem_toArray, List.getElem_cons_succ, List.getElem_cons_zero, List.setIfInBounds_toArray, List.set_cons_zero, List.set_cons_succ]
        refine wpAnyH_ready (rs := [10, 11]) (by kernel_rfl) (by simp) ?_
        refine (AllReadyH.cons rfl (fun K hK => ?_) (AllReadyH.cons rfl (fun K hK => ?_) AllReadyH.nil))
        · go_simp
          obtain ⟨b7, hbb⟩ : ∃ b7, b7 = v_3.heap.size := ⟨_, rfl⟩
          obtain ⟨v_4, hw2⟩ : ∃ v_4, v_4 = v_3.alloc (.cells #[.int .i64 0, .bool false, .bool false] 29) := ⟨_, rfl⟩
          have nb7_0 := F0.out.lt
          rw [← hbb] at nb7_0
          have nb7_1 := F1.out.lt
          rw [← hbb] at nb7_1
          have nb7_2 := F2.out.lt
          rw [← hbb] at nb7_2
          have nb7_3 := F3.out.lt
          rw [← hbb] at nb7_3
          have F4 : Hid (RCmd v_4 b7) := by rw [hw2]; exact RCmd.at_ v_3 _ b7 hbb
          replace F0 : Hid (SW v_4 (w.heap.size + 1) s) := by rw [hw2]; exact F0.out.alloc _
          replace F1 : Hid (JW v_4 (w.heap.size + 2) p) := by rw [hw2]; exact F1.out.alloc _
          replace F2 : Hid (HAt v_4 w.heap.size h) := by rw [hw2]; exact F2.out.alloc _
          replace F3 : Hid (RJ v_4 (w.heap.size + 3)) := by rw [hw2]; exact F3.out.alloc _
          replace FB : Hid (Below w.heap.size w v_4) := by rw [hw2]; exact FB.out.alloc FB.out.size _
          rw [← hw2, ← hbb]
          clear hbb hw2
          clear x0_0 x0_1 x0_2 x0_3 x0_4 x0_5 x1_0 x1_1 x1_2 x1_3 x1_4 x1_5
          obtain ⟨x0_0, x0_1, x0_2, x0_3, x0_4, x0_5, y0_0, y0_1, y0_2, y0_3, y0_4, y0_5⟩ := F0.out
          obtain ⟨x1_0, x1_1, x1_2, x1_3, x1_4, x1_5, y1_0, y1_1, y1_2, y1_3, y1_4, y1_5⟩ := F1.out
          refine hK.out _ _ (by (try dsimp only); first | exact ⟨x0_0, x0_1, x0_2, x0_3, x0_4, x0_5, x1_0, x1_1, x1_2, x1_3, x1_4, x1_5⟩ | go_keep) (fun hHeld => ?_)
          clear hK K
          try simp only [Act.put, List.getElem_toArray, List.getElem_cons_succ, List.getElem_cons_zero, List.setIfInBounds_toArray, List.set_cons_zero, List.set_cons_succ]
          refine wpAnyH_ready (rs := [11]) (by kernel_rfl) (by simp) ?_
          refine (AllReadyH.cons rfl (fun K hK => ?_) AllReadyH.nil)
          go_simp
          obtain ⟨b8, hbb⟩ : ∃ b8, b8 = v_4.heap.size := ⟨_, rfl⟩
          obtain ⟨v_5, hw2⟩ : ∃ v_5, v_5 = v_4.alloc (.cells #[.int .i64 0, .bool false, .bool false] 29) := ⟨_, rfl⟩
          have nb8_0 := F0.out.lt
          rw [← hbb] at nb8_0
          have nb8_1 := F1.out.lt
          rw [← hbb] at nb8_1
          have nb8_2 := F2.out.lt
          rw [← hbb] at nb8_2
          have nb8_3 := F3.out.lt
          rw [← hbb] at nb8_3
          have nb8_5 := F4.out.lt
          rw [← hbb] at nb8_5
          have F5 : Hid (RCmd v_5 b8) := by rw [hw2]; exact RCmd.at_ v_4 _ b8 hbb
          replace F0 : Hid (SW v_5 (w.heap.size + 1) s) := by rw [hw2]; exact F0.out.alloc _
          replace F1 : Hid (JW v_5 (w.heap.size + 2) p) := by rw [hw2]; exact F1.out.alloc _
          replace F2 : Hid (HAt v_5 w.heap.size h) := by rw [hw2]; exact F2.out.alloc _
          replace F3 : Hid (RJ v_5 (w.heap.size + 3)) := by rw [hw2]; exact F3.out.alloc _
          replace FB : Hid (Below w.heap.size w v_5) := by rw [hw2]; exact FB.out.alloc FB.out.size _
          replace F4 : Hid (RCmd v_5 b7) := by rw [hw2]; exact F4.out.alloc _
          rw [← hw2, ← hbb]
          clear hbb hw2
          clear x0_0 x0_1 x0_2 x0_3 x0_4 x0_5 x1_0 x1_1 x1_2 x1_3 x1_4 x1_5
          obtain ⟨x0_0, x0_1, x0_2, x0_3, x0_4, x0_5, y0_0, y0_1, y0_2, y0_3, y0_4, y0_5⟩ := F0.out
          obtain ⟨x1_0, x1_1, x1_2, x1_3, x1_4, x1_5, y1_0, y1_1, y1_2, y1_3, y1_4, y1_5⟩ := F1.out
          refine hK.out _ _ (by (try dsimp only); first | exact ⟨x0_0, x0_1, x0_2, x0_3, x0_4, x0_5, x1_0, x1_1, x1_2, x1_3, x1_4, x1_5⟩ | go_keep) (fun hHeld => ?_)
          clear hK K
          try simp only [Act.put, List.getElem_toArray, List.getElem_cons_succ, List.getElem_cons_zero, List.setIfInBounds_toArray, List.set_cons_zero, List.set_cons_succ]
          refine wpAnyH_ready (rs := [12]) (by kernel_rfl) (by simp) ?_
          refine (AllReadyH.cons rfl (fun K hK => ?_) AllReadyH.nil)
          obtain ⟨x4_0, x4_1, x4_2, y4_0, y4_1, y4_2⟩ := F4.out
          go_simp
          obtain ⟨v_6, hw2⟩ : ∃ v_6, v_6 = putCmd v_5 b7 a' := ⟨_, rfl⟩
          change K _ (putCmd v_5 b7 a')
          rw [← hw2]
          clear x4_0 x4_1 x4_2 y4_0 y4_1 y4_2
          replace F0 : Hid (SW v_6 (w.heap.size + 1) s) := by rw [hw2]; exact F0.out.below (below_putCmd (Below.refl _ _) (Nat.le_refl _) a') (by omega)
          replace F1 : Hid (JW v_6 (w.heap.size + 2) p) := by rw [hw2]; exact F1.out.below (below_putCmd (Below.refl _ _) (Nat.le_refl _) a') (by omega)
          replace F2 : Hid (HAt v_6 w.heap.size h) := by rw [hw2]; exact F2.out.below (below_putCmd (Below.refl _ _) (Nat.le_refl _) a') (by omega)
          replace F3 : Hid (RJ v_6 (w.heap.size + 3)) := by rw [hw2]; exact F3.out.below (below_putCmd (Below.refl _ _) (Nat.le_refl _) a') (by omega)
          replace FB : Hid (Below w.heap.size w v_6) := by rw [hw2]; exact below_putCmd FB.out (by omega) a'
          replace F4 : Hid (VCmd v_6 b7 a') := by rw [hw2]; exact F4.out.put _
          replace F5 : Hid (RCmd v_6 b8) := by rw [hw2]; exact ((F5.out.other (by omega)).other (by omega)).other (by omega)
          clear hw2
          clear x0_0 x0_1 x0_2 x0_3 x0_4 x0_5 x1_0 x1_1 x1_2 x1_3 x1_4 x1_5
          obtain ⟨x0_0, x0_1, x0_2, x0_3, x0_4, x0_5, y0_0, y0_1, y0_2, y0_3, y0_4, y0_5⟩ := F0.out
          obtain ⟨x1_0, x1_1, x1_2, x1_3, x1_4, x1_5, y1_0, y1_1, y1_2, y1_3, y1_4, y1_5⟩ := F1.out
          refine hK.out _ _ (by (try dsimp only); first | exact ⟨x0_0, x0_1, x0_2, x0_3, x0_4, x0_5, x1_0, x1_1, x1_2, x1_3, x1_4, x1_5⟩ | go_keep) (fun hHeld => ?_)
          clear hK K
          try simp only [Act.put, List.getElem_toArray, List.getElem_cons_succ, List.getElem_cons_zero, List.setIfInBounds_toArray, List.set_cons_zero, List.set_cons_succ]
          refine wpAnyH_ready (rs := [13]) (by kernel_rfl) (by simp) ?_
          refine (AllReadyH.cons rfl (fun K hK => ?_) AllReadyH.nil)
          obtain ⟨x5_0, x5_1, x5_2, y5_0, y5_1, y5_2⟩ := F5.out
          go_simp
          obtain ⟨v_7, hw2⟩ : ∃ v_7, v_7 = putCmd v_6 b8 b' := ⟨_, rfl⟩
          change K _ (putCmd v_6 b8 b')
          rw [← hw2]
          clear x5_0 x5_1 x5_2 y5_0 y5_1 y5_2
          replace F0 : Hid (SW v_7 (w.heap.size + 1) s) := by rw [hw2]; exact F0.out.below (below_putCmd (Below.refl _ _) (Nat.le_refl _) b') (by omega)
          replace F1 : Hid (JW v_7 (w.heap.size + 2) p) := by rw [hw2]; exact F1.out.below (below_putCmd (Below.refl _ _) (Nat.le_refl _) b') (by omega)
          replace F2 : Hid (HAt v_7 w.heap.size h) := by rw [hw2]; exact F2.out.below (below_putCmd (Below.refl _ _) (Nat.le_refl _) b') (by omega)
          replace F3 : Hid (RJ v_7 (w.heap.size + 3)) := by rw [hw2]; exact F3.out.below (below_putCmd (Below.refl _ _) (Nat.le_refl _) b') (by omega)
          replace FB : Hid (Below w.heap.size w v_7) := by rw [hw2]; exact below_putCmd FB.out (by omega) b'
          replace F4 : Hid (VCmd v_7 b7 a') := by rw [hw2]; exact ((F4.out.other (by omega)).other (by omega)).other (by omega)
          replace F5 : Hid (VCmd v_7 b8 b') := by rw [hw2]; exact F5.out.put _
          clear hw2
          clear x0_0 x0_1 x0_2 x0_3 x0_4 x0_5 x1_0 x1_1 x1_2 x1_3 x1_4 x1_5
          obtain ⟨x0_0, x0_1, x0_2, x0_3, x0_4, x0_5, y0_0, y0_1, y0_2, y0_3, y0_4, y0_5⟩ := F0.out
          obtain ⟨x1_0, x1_1, x1_2, x1_3, x1_4, x1_5, y1_0, y1_1, y1_2, y1_3, y1_4, y1_5⟩ := F1.out
          refine hK.out _ _ (by (try dsimp only); first | exact ⟨x0_0, x0_1, x0_2, x0_3, x0_4, x0_5, x1_0, x1_1, x1_2, x1_3, x1_4, x1_5⟩ | go_keep) (fun hHeld => ?_)
          clear hK K
          try simp only [Act.put, List.getElem_toArray, List.getElem_cons_succ, List.getElem_cons_zero, List.setIfInBounds_toArray, List.set_cons_zero, List.set_cons_succ]
          refine wpAnyH_done (by kernel_rfl) ?_ _
          go_wp2_with fail
          go_meet
          case rel => exact ⟨b7, b8, rfl, rfl, by omega, by omega, by omega, F2.out, F0.out, F1.out, F3.out, F4.out, F5.out, FB.out⟩
        · go_simp
          obtain ⟨b8, hbb⟩ : ∃ b8, b8 = v_3.heap.size := ⟨_, rfl⟩
          obtain ⟨v_8, hw2⟩ : ∃ v_8, v_8 = v_3.alloc (.cells #[.int .i64 0, .bool false, .bool false] 29) := ⟨_, rfl⟩
          have nb8_0 := F0.out.lt
          rw [← hbb] at nb8_0
          have nb8_1 := F1.out.lt
          rw [← hbb] at nb8_1
          have nb8_2 := F2.out.lt
          rw [← hbb] at nb8_2
          have nb8_3 := F3.out.lt
          rw [← hbb] at nb8_3
          have F5 : Hid (RCmd v_8 b8) := by rw [hw2]; exact RCmd.at_ v_3 _ b8 hbb
          replace F0 : Hid (SW v_8 (w.heap.size + 1) s) := by rw [hw2]; exact F0.out.alloc _
          replace F1 : Hid (JW v_8 (w.heap.size + 2) p) := by rw [hw2]; exact F1.out.alloc _
          replace F2 : Hid (HAt v_8 w.heap.size h) := by rw [hw2]; exact F2.out.alloc _
          replace F3 : Hid (RJ v_8 (w.heap.size + 3)) := by rw [hw2]; exact F3.out.alloc _
          replace FB : Hid (Below w.heap.size w v_8) := by rw [hw2]; exact FB.out.alloc FB.out.size _
          rw [← hw2, ← hbb]
          clear hbb hw2
          clear x0_0 x0_1 x0_2 x0_3 x0_4 x0_5 x1_0 x1_1 x1_2 x1_3 x1_4 x1_5
          obtain ⟨x0_0, x0_1, x0_2, x0_3, x0_4, x0_5, y0_0, y0_1, y0_2, y0_3, y0_4, y0_5⟩ := F0.out
          obtain ⟨x1_0, x1_1, x1_2, x1_3, x1_4, x1_5, y1_0, y1_1, y1_2, y1_3, y1_4, y1_5⟩ := F1.out
          refine hK.out _ _ (by (try dsimp only); first | exact ⟨x0_0, x0_1, x0_2, x0_3, x0_4, x0_5, x1_0, x1_1, x1_2, x1_3, x1_4, x1_5⟩ | go_keep) (fun hHeld => ?_)
          clear hK K
          try simp only [Act.put, List.getElem_toArray, List.getElem_cons_succ, List.getElem_cons_zero, List.setIfInBounds_toArray, List.set_cons_zero, List.set_cons_succ]
          refine wpAnyH_ready (rs := [10]) (by kernel_rfl) (by simp) ?_
          refine (AllReadyH.cons rfl (fun K hK => ?_) AllReadyH.nil)
          go_simp
          obtain ⟨b7, hbb⟩ : ∃ b7, b7 = v_8.heap.size := ⟨_, rfl⟩
          obtain ⟨v_9, hw2⟩ : ∃ v_9, v_9 = v_8.alloc (.cells #[.int .i64 0, .bool false, .bool false] 29) := ⟨_, rfl⟩
          have nb7_0 := F0.out.lt
          rw [← hbb] at nb7_0
          have nb7_1 := F1.out.lt
          rw [← hbb] at nb7_1
          have nb7_2 := F2.out.lt
          rw [← hbb] at nb7_2
          have nb7_3 := F3.out.lt
          rw [← hbb] at nb7_3
          have nb7_5 := F5.out.lt
          rw [← hbb] at nb7_5
          have F4 : Hid (RCmd v_9 b7) := by rw [hw2]; exact RCmd.at_ v_8 _ b7 hbb
          replace F0 : Hid (SW v_9 (w.heap.size + 1) s) := by rw [hw2]; exact F0.out.alloc _
          replace F1 : Hid (JW v_9 (w.heap.size + 2) p) := by rw [hw2]; exact F1.out.alloc _
          replace F2 : Hid (HAt v_9 w.heap.size h) := by rw [hw2]; exact F2.out.alloc _
          replace F3 : Hid (RJ v_9 (w.heap.size + 3)) := by rw [hw2]; exact F3.out.alloc _
          replace FB : Hid (Below w.heap.size w v_9) := by rw [hw2]; exact FB.out.alloc FB.out.size _
          replace F5 : Hid (RCmd v_9 b8) := by rw [hw2]; exact F5.out.alloc _
          rw [← hw2, ← hbb]
          clear hbb hw2
          clear x0_0 x0_1 x0_2 x0_3 x0_4 x0_5 x1_0 x1_1 x1_2 x1_3 x1_4 x1_5
          obtain ⟨x0_0, x0_1, x0_2, x0_3, x0_4, x0_5, y0_0, y0_1, y0_2, y0_3, y0_4, y0_5⟩ := F0.out
          obtain ⟨x1_0, x1_1, x1_2, x1_3, x1_4, x1_5, y1_0, y1_1, y1_2, y1_3, y1_4, y1_5⟩ := F1.out
          refine hK.out _ _ (by (try dsimp only); first | exact ⟨x0_0, x0_1, x0_2, x0_3, x0_4, x0_5, x1_0, x1_1, x1_2, x1_3, x1_4, x1_5⟩ | go_keep) (fun hHeld => ?_)
          clear hK K
          try simp only [Act.put, List.getElem_toArray, List.getElem_cons_succ, List.getElem_cons_zero, List.setIfInBounds_toArray, List.set_cons_zero, List.set_cons_succ]
          refine wpAnyH_ready (rs := [12]) (by kernel_rfl) (by simp) ?_
          refine (AllReadyH.cons rfl (fun K hK => ?_) AllReadyH.nil)
          obtain ⟨x4_0, x4_1, x4_2, y4_0, y4_1, y4_2⟩ := F4.out
          go_simp
          obtain ⟨v_10, hw2⟩ : ∃ v_10, v_10 = putCmd v_9 b7 a' := ⟨_, rfl⟩
          change K _ (putCmd v_9 b7 a')
          rw [← hw2]
          clear x4_0 x4_1 x4_2 y4_0 y4_1 y4_2
          replace F0 : Hid (SW v_10 (w.heap.size + 1) s) := by rw [hw2]; exact F0.out.below (below_putCmd (Below.refl _ _) (Nat.le_refl _) a') (by omega)
          replace F1 : Hid (JW v_10 (w.heap.size + 2) p) := by rw [hw2]; exact F1.out.below (below_putCmd (Below.refl _ _) (Nat.le_refl _) a') (by omega)
          replace F2 : Hid (HAt v_10 w.heap.size h) := by rw [hw2]; exact F2.out.below (below_putCmd (Below.refl _ _) (Nat.le_refl _) a') (by omega)
          replace F3 : Hid (RJ v_10 (w.heap.size + 3)) := by rw [hw2]; exact F3.out.below (below_putCmd (Below.refl _ _) (Nat.le_refl _) a') (by omega)
          replace FB : Hid (Below w.heap.size w v_10) := by rw [hw2]; exact below_putCmd FB.out (by omega) a'
          replace F5 : Hid (RCmd v_10 b8) := by rw [hw2]; exact ((F5.out.other (by omega)).other (by omega)).other (by omega)
          replace F4 : Hid (VCmd v_10 b7 a') := by rw [hw2]; exact F4.out.put _
          clear hw2
          clear x0_0 x0_1 x0_2 x0_3 x0_4 x0_5 x1_0 x1_1 x1_2 x1_3 x1_4 x1_5
          obtain ⟨x0_0, x0_1, x0_2, x0_3, x0_4, x0_5, y0_0, y0_1, y0_2, y0_3, y0_4, y0_5⟩ := F0.out
          obtain ⟨x1_0, x1_1, x1_2, x1_3, x1_4, x1_5, y1_0, y1_1, y1_2, y1_3, y1_4, y1_5⟩ := F1.out
          refine hK.out _ _ (by (try dsimp only); first | exact ⟨x0_0, x0_1, x0_2, x0_3, x0_4, x0_5, x1_0, x1_1, x1_2, x1_3, x1_4, x1_5⟩ | go_keep) (fun hHeld => ?_)
          clear hK K
          try simp only [Act.put, List.getElem_toArray, List.getElem_cons_succ, List.getElem_cons_zero, List.setIfInBounds_toArray, List.set_cons_zero, List.set_cons_succ]
          refine wpAnyH_ready (rs := [13]) (by kernel_rfl) (by simp) ?_
          refine (AllReadyH.cons rfl (fun K hK => ?_) AllReadyH.nil)
          obtain ⟨x5_0, x5_1, x5_2, y5_0, y5_1, y5_2⟩ := F5.out
          go_simp
          obtain ⟨v_11, hw2⟩ : ∃ v_11, v_11 = putCmd v_10 b8 b' := ⟨_, rfl⟩
          change K _ (putCmd v_10 b8 b')
          rw [← hw2]
          clear x5_0 x5_1 x5_2 y5_0 y5_1 y5_2
          replace F0 : Hid (SW v_11 (w.heap.size + 1) s) := by rw [hw2]; exact F0.out.below (below_putCmd (Below.refl _ _) (Nat.le_refl _) b') (by omega)
          replace F1 : Hid (JW v_11 (w.heap.size + 2) p) := by rw [hw2]; exact F1.out.below (below_putCmd (Below.refl _ _) (Nat.le_refl _) b') (by omega)
          replace F2 : Hid (HAt v_11 w.heap.size h) := by rw [hw2]; exact F2.out.below (below_putCmd (Below.refl _ _) (Nat.le_refl _) b') (by omega)
          replace F3 : Hid (RJ v_11 (w.heap.size + 3)) := by rw [hw2]; exact F3.out.below (below_putCmd (Below.refl _ _) (Nat.le_refl _) b') (by omega)
          replace FB : Hid (Below w.heap.size w v_11) := by rw [hw2]; exact below_putCmd FB.out (by omega) b'
          replace F5 : Hid (VCmd v_11 b8 b') := by rw [hw2]; exact F5.out.put _
          replace F4 : Hid (VCmd v_11 b7 a') := by rw [hw2]; exact ((F4.out.other (by omega)).other (by omega)).other (by omega)
          clear hw2
          clear x0_0 x0_1 x0_2 x0_3 x0_4 x0_5 x1_0 x1_1 x1_2 x1_3 x1_4 x1_5
          obtain ⟨x0_0, x0_1, x0_2, x0_3, x0_4, x0_5, y0_0, y0_1, y0_2, y0_3, y0_4, y0_5⟩ := F0.out
          obtain ⟨x1_0, x1_1, x1_2, x1_3, x1_4, x1_5, y1_0, y1_1, y1_2, y1_3, y1_4, y1_5⟩ := F1.out
          refine hK.out _ _ (by (try dsimp only); first | exact ⟨x0_0, x0_1, x0_2, x0_3, x0_4, x0_5, x1_0, x1_1, x1_2, x1_3, x1_4, x1_5⟩ | go_keep) (fun hHeld => ?_)
          clear hK K
          try simp only [Act.put, List.getElem_toArray, List.getElem_cons_succ, List.getElem_cons_zero, List.setIfInBounds_toArray, List.set_cons_zero, List.set_cons_succ]
          refine wpAnyH_done (by kernel_rfl) ?_ _
          go_wp2_with fail
          go_meet
          case rel => exact ⟨b7, b8, rfl, rfl, by omega, by omega, by omega, F2.out, F0.out, F1.out, F3.out, F4.out, F5.out, FB.out⟩
      · go_simp
        obtain ⟨b7, hbb⟩ : ∃ b7, b7 = v_2.heap.size := ⟨_, rfl⟩
        obtain ⟨v_12, hw2⟩ : ∃ v_12, v_12 = v_2.alloc (.cells #[.int .i64 0, .bool false, .bool false] 29) := ⟨_, rfl⟩
        have nb7_0 := F0.out.lt
        rw [← hbb] at nb7_0
        have nb7_1 := F1.out.lt
        rw [← hbb] at nb7_1
        have nb7_2 := F2.out.lt
        rw [← hbb] at nb7_2
        have nb7_3 := F3.out.lt
        rw [← hbb] at nb7_3
        have F4 : Hid (RCmd v_12 b7) := by rw [hw2]; exact RCmd.at_ v_2 _ b7 hbb
        replace F0 : Hid (SW v_12 (w.heap.size + 1) s) := by rw [hw2]; exact F0.out.alloc _
        replace F1 : Hid (JW v_12 (w.heap.size + 2) p) := by rw [hw2]; exact F1.out.alloc _
        replace F2 : Hid (HAt v_12 w.heap.size h) := by rw [hw2]; exact F2.out.alloc _
        replace F3 : Hid (RJ v_12 (w.heap.size + 3)) := by rw [hw2]; exact F3.out.alloc _
        replace FB : Hid (Below w.heap.size w v_12) := by rw [hw2]; exact FB.out.alloc FB.out.size _
        rw [← hw2, ← hbb]
        clear hbb hw2
        clear x0_0 x0_1 x0_2 x0_3 x0_4 x0_5 x1_0 x1_1 x1_2 x1_3 x1_4 x1_5
        obtain ⟨x0_0, x0_1, x0_2, x0_3, x0_4, x0_5, y0_0, y0_1, y0_2, y0_3, y0_4, y0_5⟩ := F0.out
        obtain ⟨x1_0, x1_1, x1_2, x1_3, x1_4, x1_5, y1_0, y1_1, y1_2, y1_3, y1_4, y1_5⟩ := F1.out
        refine hK.out _ _ (by (try dsimp only); first | exact ⟨x0_0, x0_1, x0_2, x0_3, x0_4, x0_5, x1_0, x1_1, x1_2, x1_3, x1_4, x1_5⟩ | go_keep) (fun hHeld => ?_)
        clear hK K
        try simp only [Act.put, List.getElem_toArray, List.getElem_cons_succ, List.getElem_cons_zero, List.setIfInBounds_toArray, List.set_cons_zero, List.set_cons_succ]
        refine wpAnyH_ready (rs := [9, 11]) (by kernel_rfl) (by simp) ?_
        refine (AllReadyH.cons rfl (fun K hK => ?_) (AllReadyH.cons rfl (fun K hK => ?_) AllReadyH.nil))
        · go_simp
          refine (heldBack_any s.up p.b b' (by rw [HP.out]; exact HB.out) _).mono ?_
          rintro e v_13 ⟨rfl, hb⟩
          replace F0 : Hid (SW v_13 (w.heap.size + 1) s) := F0.out.below hb F0.out.lt
          replace F1 : Hid (JW v_13 (w.heap.size + 2) p) := F1.out.below hb F1.out.lt
          replace F2 : Hid (HAt v_13 w.heap.size h) := F2.out.below hb F2.out.lt
          replace F3 : Hid (RJ v_13 (w.heap.size + 3)) := F3.out.below hb F3.out.lt
          replace FB : Hid (Below w.heap.size w v_13) := FB.out.trans (hb.mono FB.out.size)
          replace F4 : Hid (RCmd v_13 b7) := F4.out.below hb F4.out.lt
          clear hb
          clear x0_0 x0_1 x0_2 x0_3 x0_4 x0_5 x1_0 x1_1 x1_2 x1_3 x1_4 x1_5
          obtain ⟨x0_0, x0_1, x0_2, x0_3, x0_4, x0_5, y0_0, y0_1, y0_2, y0_3, y0_4, y0_5⟩ := F0.out
          obtain ⟨x1_0, x1_1, x1_2, x1_3, x1_4, x1_5, y1_0, y1_1, y1_2, y1_3, y1_4, y1_5⟩ := F1.out
          try dsimp only
          refine hK.out _ _ (by (try dsimp only); first | exact ⟨x0_0, x0_1, x0_2, x0_3, x0_4, x0_5, x1_0, x1_1, x1_2, x1_3, x1_4, x1_5⟩ | go_keep) (fun hHeld => ?_)
          clear hK K
          try simp only [Act.put, List.getElem_toArray, List.getElem_cons_succ, List.getElem_cons_zero, List.setIfInBounds_toArray, List.set_cons_zero, List.set_cons_succ]
          refine wpAnyH_ready (rs := [11]) (by kernel_rfl) (by simp) ?_
          refine (AllReadyH.cons rfl (fun K hK => ?_) AllReadyH.nil)
          go_simp
          obtain ⟨b8, hbb⟩ : ∃ b8, b8 = v_13.heap.size := ⟨_, rfl⟩
          obtain ⟨v_14, hw2⟩ : ∃ v_14, v_14 = v_13.alloc (.cells #[.int .i64 0, .bool false, .bool false] 29) := ⟨_, rfl⟩
          have nb8_0 := F0.out.lt
          rw [← hbb] at nb8_0
          have nb8_1 := F1.out.lt
          rw [← hbb] at nb8_1
          have nb8_2 := F2.out.lt
          rw [← hbb] at nb8_2
          have nb8_3 := F3.out.lt
          rw [← hbb] at nb8_3
          have nb8_5 := F4.out.lt
          rw [← hbb] at nb8_5
          have F5 : Hid (RCmd v_14 b8) := by rw [hw2]; exact RCmd.at_ v_13 _ b8 hbb
          replace F0 : Hid (SW v_14 (w.heap.size + 1) s) := by rw [hw2]; exact F0.out.alloc _
          replace F1 : Hid (JW v_14 (w.heap.size + 2) p) := by rw [hw2]; exact F1.out.alloc _
          replace F2 : Hid (HAt v_14 w.heap.size h) := by rw [hw2]; exact F2.out.alloc _
          replace F3 : Hid (RJ v_14 (w.heap.size + 3)) := by rw [hw2]; exact F3.out.alloc _
          replace FB : Hid (Below w.heap.size w v_14) := by rw [hw2]; exact FB.out.alloc FB.out.size _
          replace F4 : Hid (RCmd v_14 b7) := by rw [hw2]; exact F4.out.alloc _
          rw [← hw2, ← hbb]
          clear hbb hw2
          clear x0_0 x0_1 x0_2 x0_3 x0_4 x0_5 x1_0 x1_1 x1_2 x1_3 x1_4 x1_5
          obtain ⟨x0_0, x0_1, x0_2, x0_3, x0_4, x0_5, y0_0, y0_1, y0_2, y0_3, y0_4, y0_5⟩ := F0.out
          obtain ⟨x1_0, x1_1, x1_2, x1_3, x1_4, x1_5, y1_0, y1_1, y1_2, y1_3, y1_4, y1_5⟩ := F1.out
          refine hK.out _ _ (by (try dsimp only); first | exact ⟨x0_0, x0_1, x0_2, x0_3, x0_4, x0_5, x1_0, x1_1, x1_2, x1_3, x1_4, x1_5⟩ | go_keep) (fun hHeld => ?_)
          clear hK K
          try simp only [Act.put, List.getElem_toArray, List.getElem_cons_succ, List.getElem_cons_zero, List.setIfInBounds_toArray, List.set_cons_zero, List.set_cons_succ]
          refine wpAnyH_ready (rs := [12]) (by kernel_rfl) (by simp) ?_
          refine (AllReadyH.cons rfl (fun K hK => ?_) AllReadyH.nil)
          obtain ⟨x4_0, x4_1, x4_2, y4_0, y4_1, y4_2⟩ := F4.out
          go_simp
          obtain ⟨v_15, hw2⟩ : ∃ v_15, v_15 = putCmd v_14 b7 a' := ⟨_, rfl⟩
          change K _ (putCmd v_14 b7 a')
          rw [← hw2]
          clear x4_0 x4_1 x4_2 y4_0 y4_1 y4_2
          replace F0 : Hid (SW v_15 (w.heap.size + 1) s) := by rw [hw2]; exact F0.out.below (below_putCmd (Below.refl _ _) (Nat.le_refl _) a') (by omega)
          replace F1 : Hid (JW v_15 (w.heap.size + 2) p) := by rw [hw2]; exact F1.out.below (below_putCmd (Below.refl _ _) (Nat.le_refl _) a') (by omega)
          replace F2 : Hid (HAt v_15 w.heap.size h) := by rw [hw2]; exact F2.out.below (below_putCmd (Below.refl _ _) (Nat.le_refl _) a') (by omega)
          replace F3 : Hid (RJ v_15 (w.heap.size + 3)) := by rw [hw2]; exact F3.out.below (below_putCmd (Below.refl _ _) (Nat.le_refl _) a') (by omega)
          replace FB : Hid (Below w.heap.size w v_15) := by rw [hw2]; exact below_putCmd FB.out (by omega) a'
          replace F4 : Hid (VCmd v_15 b7 a') := by rw [hw2]; exact F4.out.put _
          replace F5 : Hid (RCmd v_15 b8) := by rw [hw2]; exact ((F5.out.other (by omega)).other (by omega)).other (by omega)
          clear hw2
          clear x0_0 x0_1 x0_2 x0_3 x0_4 x0_5 x1_0 x1_1 x1_2 x1_3 x1_4 x1_5
          obtain ⟨x0_0, x0_1, x0_2, x0_3, x0_4, x0_5, y0_0, y0_1, y0_2, y0_3, y0_4, y0_5⟩ := F0.out
          obtain ⟨x1_0, x1_1, x1_2, x1_3, x1_4, x1_5, y1_0, y1_1, y1_2, y1_3, y1_4, y1_5⟩ := F1.out
          refine hK.out _ _ (by (try dsimp only); first | exact ⟨x0_0, x0_1, x0_2, x0_3, x0_4, x0_5, x1_0, x1_1, x1_2, x1_3, x1_4, x1_5⟩ | go_keep) (fun hHeld => ?_)
          clear hK K
          try simp only [Act.put, List.getElem_toArray, List.getElem_cons_succ, List.getElem_cons_zero, List.setIfInBounds_toArray, List.set_cons_zero, List.set_cons_succ]
          refine wpAnyH_ready (rs := [13]) (by kernel_rfl) (by simp) ?_
          refine (AllReadyH.cons rfl (fun K hK => ?_) AllReadyH.nil)
          obtain ⟨x5_0, x5_1, x5_2, y5_0, y5_1, y5_2⟩ := F5.out
          go_simp
          obtain ⟨v_16, hw2⟩ : ∃ v_16, v_16 = putCmd v_15 b8 b' := ⟨_, rfl⟩
          change K _ (putCmd v_15 b8 b')
          rw [← hw2]
          clear x5_0 x5_1 x5_2 y5_0 y5_1 y5_2
          replace F0 : Hid (SW v_16 (w.heap.size + 1) s) := by rw [hw2]; exact F0.out.below (below_putCmd (Below.refl _ _) (Nat.le_refl _) b') (by omega)
          replace F1 : Hid (JW v_16 (w.heap.size + 2) p) := by rw [hw2]; exact F1.out.below (below_putCmd (Below.refl _ _) (Nat.le_refl _) b') (by omega)
          replace F2 : Hid (HAt v_16 w.heap.size h) := by rw [hw2]; exact F2.out.below (below_putCmd (Below.refl _ _) (Nat.le_refl _) b') (by omega)
          replace F3 : Hid (RJ v_16 (w.heap.size + 3)) := by rw [hw2]; exact F3.out.below (below_putCmd (Below.refl _ _) (Nat.le_refl _) b') (by omega)
          replace FB : Hid (Below w.heap.size w v_16) := by rw [hw2]; exact below_putCmd FB.out (by omega) b'
          replace F4 : Hid (VCmd v_16 b7 a') := by rw [hw2]; exact ((F4.out.other (by omega)).other (by omega)).other (by omega)
          replace F5 : Hid (VCmd v_16 b8 b') := by rw [hw2]; exact F5.out.put _
          clear hw2
          clear x0_0 x0_1 x0_2 x0_3 x0_4 x0_5 x1_0 x1_1 x1_2 x1_3 x1_4 x1_5
          obtain ⟨x0_0, x0_1, x0_2, x0_3, x0_4, x0_5, y0_0, y0_1, y0_2, y0_3, y0_4, y0_5⟩ := F0.out
          obtain ⟨x1_0, x1_1, x1_2, x1_3, x1_4, x1_5, y1_0, y1_1, y1_2, y1_3, y1_4, y1_5⟩ := F1.out
          refine hK.out _ _ (by (try dsimp only); first | exact ⟨x0_0, x0_1, x0_2, x0_3, x0_4, x0_5, x1_0, x1_1, x1_2, x1_3, x1_4, x1_5⟩ | go_keep) (fun hHeld => ?_)
          clear hK K
          try simp only [Act.put, List.getElem_toArray, List.getElem_cons_succ, List.getElem_cons_zero, List.setIfInBounds_toArray, List.set_cons_zero, List.set_cons_succ]
          refine wpAnyH_done (by kernel_rfl) ?_ _
          go_wp2_with fail
          go_meet
          case rel => exact ⟨b7, b8, rfl, rfl, by omega, by omega, by omega, F2.out, F0.out, F1.out, F3.out, F4.out, F5.out, FB.out⟩
        · go_simp
          obtain ⟨b8, hbb⟩ : ∃ b8, b8 = v_12.heap.size := ⟨_, rfl⟩
          obtain ⟨v_17, hw2⟩ : ∃ v_17, v_17 = v_12.alloc (.cells #[.int .i64 0, .bool false, .bool false] 29) := ⟨_, rfl⟩
          have nb8_0 := F0.out.lt
          rw [← hbb] at nb8_0
          have nb8_1 := F1.out.lt
          rw [← hbb] at nb8_1
          have nb8_2 := F2.out.lt
          rw [← hbb] at nb8_2
          have nb8_3 := F3.out.lt
          rw [← hbb] at nb8_3
          have nb8_5 := F4.out.lt
          rw [← hbb] at nb8_5
          have F5 : Hid (RCmd v_17 b8) := by rw [hw2]; exact RCmd.at_ v_12 _ b8 hbb
          replace F0 : Hid (SW v_17 (w.heap.size + 1) s) := by rw [hw2]; exact F0.out.alloc _
          replace F1 : Hid (JW v_17 (w.heap.size + 2) p) := by rw [hw2]; exact F1.out.alloc _
          replace F2 : Hid (HAt v_17 w.heap.size h) := by rw [hw2]; exact F2.out.alloc _
          replace F3 : Hid (RJ v_17 (w.heap.size + 3)) := by rw [hw2]; exact F3.out.alloc _
          replace FB : Hid (Below w.heap.size w v_17) := by rw [hw2]; exact FB.out.alloc FB.out.size _
          replace F4 : Hid (RCmd v_17 b7) := by rw [hw2]; exact F4.out.alloc _
          rw [← hw2, ← hbb]
          clear hbb hw2
          clear x0_0 x0_1 x0_2 x0_3 x0_4 x0_5 x1_0 x1_1 x1_2 x1_3 x1_4 x1_5
          obtain ⟨x0_0, x0_1, x0_2, x0_3, x0_4, x0_5, y0_0, y0_1, y0_2, y0_3, y0_4, y0_5⟩ := F0.out
          obtain ⟨x1_0, x1_1, x1_2, x1_3, x1_4, x1_5, y1_0, y1_1, y1_2, y1_3, y1_4, y1_5⟩ := F1.out
          refine hK.out _ _ (by (try dsimp only); first | exact ⟨x0_0, x0_1, x0_2, x0_3, x0_4, x0_5, x1_0, x1_1, x1_2, x1_3, x1_4, x1_5⟩ | go_keep) (fun hHeld => ?_)
          clear hK K
          try simp only [Act.put, List.getElem_toArray, List.getElem_cons_succ, List.getElem_cons_zero, List.setIfInBounds_toArray, List.set_cons_zero, List.set_cons_succ]
          refine wpAnyH_ready (rs := [9]) (by kernel_rfl) (by simp) ?_
          refine (AllReadyH.cons rfl (fun K hK => ?_) AllReadyH.nil)
          go_simp
          refine (heldBack_any s.up p.b b' (by rw [HP.out]; exact HB.out) _).mono ?_
          rintro e v_18 ⟨rfl, hb⟩
          replace F0 : Hid (SW v_18 (w.heap.size + 1) s) := F0.out.below hb F0.out.lt
          replace F1 : Hid (JW v_18 (w.heap.size + 2) p) := F1.out.below hb F1.out.lt
          replace F2 : Hid (HAt v_18 w.heap.size h) := F2.out.below hb F2.out.lt
          replace F3 : Hid (RJ v_18 (w.heap.size + 3)) := F3.out.below hb F3.out.lt
          replace FB : Hid (Below w.heap.size w v_18) := FB.out.trans (hb.mono FB.out.size)
          replace F4 : Hid (RCmd v_18 b7) := F4.out.below hb F4.out.lt
          replace F5 : Hid (RCmd v_18 b8) := F5.out.below hb F5.out.lt
          clear hb
          clear x0_0 x0_1 x0_2 x0_3 x0_4 x0_5 x1_0 x1_1 x1_2 x1_3 x1_4 x1_5
          obtain ⟨x0_0, x0_1, x0_2, x0_3, x0_4, x0_5, y0_0, y0_1, y0_2, y0_3, y0_4, y0_5⟩ := F0.out
          obtain ⟨x1_0, x1_1, x1_2, x1_3, x1_4, x1_5, y1_0, y1_1, y1_2, y1_3, y1_4, y1_5⟩ := F1.out
          try dsimp only
          refine hK.out _ _ (by (try dsimp only); first | exact ⟨x0_0, x0_1, x0_2, x0_3, x0_4, x0_5, x1_0, x1_1, x1_2, x1_3, x1_4, x1_5⟩ | go_keep) (fun hHeld => ?_)
          clear hK K
          try simp only [Act.put, List.getElem_toArray, List.getElem_cons_succ, List.getElem_cons_zero, List.setIfInBounds_toArray, List.set_cons_zero, List.set_cons_succ]
          refine wpAnyH_ready (rs := [12]) (by kernel_rfl) (by simp) ?_
          refine (AllReadyH.cons rfl (fun K hK => ?_) AllReadyH.nil)
          obtain ⟨x4_0, x4_1, x4_2, y4_0, y4_1, y4_2⟩ := F4.out
          go_simp
          obtain ⟨v_19, hw2⟩ : ∃ v_19, v_19 = putCmd v_18 b7 a' := ⟨_, rfl⟩
          change K _ (putCmd v_18 b7 a')
          rw [← hw2]
          clear x4_0 x4_1 x4_2 y4_0 y4_1 y4_2
          replace F0 : Hid (SW v_19 (w.heap.size + 1) s) := by rw [hw2]; exact F0.out.below (below_putCmd (Below.refl _ _) (Nat.le_refl _) a') (by omega)
          replace F1 : Hid (JW v_19 (w.heap.size + 2) p) := by rw [hw2]; exact F1.out.below (below_putCmd (Below.refl _ _) (Nat.le_refl _) a') (by omega)
          replace F2 : Hid (HAt v_19 w.heap.size h) := by rw [hw2]; exact F2.out.below (below_putCmd (Below.refl _ _) (Nat.le_refl _) a') (by omega)
          replace F3 : Hid (RJ v_19 (w.heap.size + 3)) := by rw [hw2]; exact F3.out.below (below_putCmd (Below.refl _ _) (Nat.le_refl _) a') (by omega)
          replace FB : Hid (Below w.heap.size w v_19) := by rw [hw2]; exact below_putCmd FB.out (by omega) a'
          replace F4 : Hid (VCmd v_19 b7 a') := by rw [hw2]; exact F4.out.put _
          replace F5 : Hid (RCmd v_19 b8) := by rw [hw2]; exact ((F5.out.other (by omega)).other (by omega)).other (by omega)
          clear hw2
          clear x0_0 x0_1 x0_2 x0_3 x0_4 x0_5 x1_0 x1_1 x1_2 x1_3 x1_4 x1_5
          obtain ⟨x0_0, x0_1, x0_2, x0_3, x0_4, x0_5, y0_0, y0_1, y0_2, y0_3, y0_4, y0_5⟩ := F0.out
          obtain ⟨x1_0, x1_1, x1_2, x1_3, x1_4, x1_5, y1_0, y1_1, y1_2, y1_3, y1_4, y1_5⟩ := F1.out
          refine hK.out _ _ (by (try dsimp only); first | exact ⟨x0_0, x0_1, x0_2, x0_3, x0_4, x0_5, x1_0, x1_1, x1_2, x1_3, x1_4, x1_5⟩ | go_keep) (fun hHeld => ?_)
          clear hK K
          try simp only [Act.put, List.getElem_toArray, List.getElem_cons_succ, List.getElem_cons_zero, List.setIfInBounds_toArray, List.set_cons_zero, List.set_cons_succ]
          refine wpAnyH_ready (rs := [13]) (by kernel_rfl) (by simp) ?_
          refine (AllReadyH.cons rfl (fun K hK => ?_) AllReadyH.nil)
          obtain ⟨x5_0, x5_1, x5_2, y5_0, y5_1, y5_2⟩ := F5.out
          go_simp
          obtain ⟨v_20, hw2⟩ : ∃ v_20, v_20 = putCmd v_19 b8 b' := ⟨_, rfl⟩
          change K _ (putCmd v_19 b8 b')
          rw [← hw2]
          clear x5_0 x5_1 x5_2 y5_0 y5_1 y5_2
          replace F0 : Hid (SW v_20 (w.heap.size + 1) s) := by rw [hw2]; exact F0.out.below (below_putCmd (Below.refl _ _) (Nat.le_refl _) b') (by omega)
          replace F1 : Hid (JW v_20 (w.heap.size + 2) p) := by rw [hw2]; exact F1.out.below (below_putCmd (Below.refl _ _) (Nat.le_refl _) b') (by omega)
          replace F2 : Hid (HAt v_20 w.heap.size h) := by rw [hw2]; exact F2.out.below (below_putCmd (Below.refl _ _) (Nat.le_refl _) b') (by omega)
          replace F3 : Hid (RJ v_20 (w.heap.size + 3)) := by rw [hw2]; exact F3.out.below (below_putCmd (Below.refl _ _) (Nat.le_refl _) b') (by omega)
          replace FB : Hid (Below w.heap.size w v_20) := by rw [hw2]; exact below_putCmd FB.out (by omega) b'
          replace F4 : Hid (VCmd v_20 b7 a') := by rw [hw2]; exact ((F4.out.other (by omega)).other (by omega)).other (by omega)
          replace F5 : Hid (VCmd v_20 b8 b') := by rw [hw2]; exact F5.out.put _
          clear hw2
          clear x0_0 x0_1 x0_2 x0_3 x0_4 x0_5 x1_0 x1_1 x1_2 x1_3 x1_4 x1_5
          obtain ⟨x0_0, x0_1, x0_2, x0_3, x0_4, x0_5, y0_0, y0_1, y0_2, y0_3, y0_4, y0_5⟩ := F0.out
          obtain ⟨x1_0, x1_1, x1_2, x1_3, x1_4, x1_5, y1_0, y1_1, y1_2, y1_3, y1_4, y1_5⟩ := F1.out
          refine hK.out _ _ (by (try dsimp only); first | exact ⟨x0_0, x0_1, x0_2, x0_3, x0_4, x0_5, x1_0, x1_1, x1_2, x1_3, x1_4, x1_5⟩ | go_keep) (fun hHeld => ?_)
          clear hK K
          try simp only [Act.put, List.getElem_toArray, List.getElem_cons_succ, List.getElem_cons_zero, List.setIfInBounds_toArray, List.set_cons_zero, List.set_cons_succ]
          refine wpAnyH_done (by kernel_rfl) ?_ _
          go_wp2_with fail
          go_meet
          case rel => exact ⟨b7, b8, rfl, rfl, by omega, by omega, by omega, F2.out, F0.out, F1.out, F3.out, F4.out, F5.out, FB.out⟩
      · go_simp
        obtain ⟨b8, hbb⟩ : ∃ b8, b8 = v_2.heap.size := ⟨_, rfl⟩
        obtain ⟨v_21, hw2⟩ : ∃ v_21, v_21 = v_2.alloc (.cells #[.int .i64 0, .bool false, .bool false] 29) := ⟨_, rfl⟩
        have nb8_0 := F0.out.lt
        rw [← hbb] at nb8_0
        have nb8_1 := F1.out.lt
        rw [← hbb] at nb8_1
        have nb8_2 := F2.out.lt
        rw [← hbb] at nb8_2
        have nb8_3 := F3.out.lt
        rw [← hbb] at nb8_3
        have F5 : Hid (RCmd v_21 b8) := by rw [hw2]; exact RCmd.at_ v_2 _ b8 hbb
        replace F0 : Hid (SW v_21 (w.heap.size + 1) s) := by rw [hw2]; exact F0.out.alloc _
        replace F1 : Hid (JW v_21 (w.heap.size + 2) p) := by rw [hw2]; exact F1.out.alloc _
        replace F2 : Hid (HAt v_21 w.heap.size h) := by rw [hw2]; exact F2.out.alloc _
        replace F3 : Hid (RJ v_21 (w.heap.size + 3)) := by rw [hw2]; exact F3.out.alloc _
        replace FB : Hid (Below w.heap.size w v_21) := by rw [hw2]; exact FB.out.alloc FB.out.size _
        rw [← hw2, ← hbb]
        clear hbb hw2
        clear x0_0 x0_1 x0_2 x0_3 x0_4 x0_5 x1_0 x1_1 x1_2 x1_3 x1_4 x1_5
        obtain ⟨x0_0, x0_1, x0_2, x0_3, x0_4, x0_5, y0_0, y0_1, y0_2, y0_3, y0_4, y0_5⟩ := F0.out
        obtain ⟨x1_0, x1_1, x1_2, x1_3, x1_4, x1_5, y1_0, y1_1, y1_2, y1_3, y1_4, y1_5⟩ := F1.out
        refine hK.out _ _ (by (try dsimp only); first | exact ⟨x0_0, x0_1, x0_2, x0_3, x0_4, x0_5, x1_0, x1_1, x1_2, x1_3, x1_4, x1_5⟩ | go_keep) (fun hHeld => ?_)
        clear hK K
        try simp only [Act.put, List.getElem_toArray, List.getElem_cons_succ, List.getElem_cons_zero, List.setIfInBounds_toArray, List.set_cons_zero, List.set_cons_succ]
        refine wpAnyH_ready (rs := [9, 10]) (by kernel_rfl) (by simp) ?_
        refine (AllReadyH.cons rfl (fun K hK => ?_) (AllReadyH.cons rfl (fun K hK => ?_) AllReadyH.nil))
        · go_simp
          refine (heldBack_any s.up p.b b' (by rw [HP.out]; exact HB.out) _).mono ?_
          rintro e v_22 ⟨rfl, hb⟩
          replace F0 : Hid (SW v_22 (w.heap.size + 1) s) := F0.out.below hb F0.out.lt
          replace F1 : Hid (JW v_22 (w.heap.size + 2) p) := F1.out.below hb F1.out.lt
          replace F2 : Hid (HAt v_22 w.heap.size h) := F2.out.below hb F2.out.lt
          replace F3 : Hid (RJ v_22 (w.heap.size + 3)) := F3.out.below hb F3.out.lt
          replace FB : Hid (Below w.heap.size w v_22) := FB.out.trans (hb.mono FB.out.size)
          replace F5 : Hid (RCmd v_22 b8) := F5.out.below hb F5.out.lt
          clear hb
          clear x0_0 x0_1 x0_2 x0_3 x0_4 x0_5 x1_0 x1_1 x1_2 x1_3 x1_4 x1_5
          obtain ⟨x0_0, x0_1, x0_2, x0_3, x0_4, x0_5, y0_0, y0_1, y0_2, y0_3, y0_4, y0_5⟩ := F0.out
          obtain ⟨x1_0, x1_1, x1_2, x1_3, x1_4, x1_5, y1_0, y1_1, y1_2, y1_3, y1_4, y1_5⟩ := F1.out
          try dsimp only
          refine hK.out _ _ (by (try dsimp only); first | exact ⟨x0_0, x0_1, x0_2, x0_3, x0_4, x0_5, x1_0, x1_1, x1_2, x1_3, x1_4, x1_5⟩ | go_keep) (fun hHeld => ?_)
          clear hK K
          try simp only [Act.put, List.getElem_toArray, List.getElem_cons_succ, List.getElem_cons_zero, List.setIfInBounds_toArray, List.set_cons_zero, List.set_cons_succ]
          refine wpAnyH_ready (rs := [10]) (by kernel_rfl) (by simp) ?_
          refine (AllReadyH.cons rfl (fun K hK => ?_) AllReadyH.nil)
          go_simp
          obtain ⟨b7, hbb⟩ : ∃ b7, b7 = v_22.heap.size := ⟨_, rfl⟩
          obtain ⟨v_23, hw2⟩ : ∃ v_23, v_23 = v_22.alloc (.cells #[.int .i64 0, .bool false, .bool false] 29) := ⟨_, rfl⟩
          have nb7_0 := F0.out.lt
          rw [← hbb] at nb7_0
          have nb7_1 := F1.out.lt
          rw [← hbb] at nb7_1
          have nb7_2 := F2.out.lt
          rw [← hbb] at nb7_2
          have nb7_3 := F3.out.lt
          rw [← hbb] at nb7_3
          have nb7_5 := F5.out.lt
          rw [← hbb] at nb7_5
          have F4 : Hid (RCmd v_23 b7) := by rw [hw2]; exact RCmd.at_ v_22 _ b7 hbb
          replace F0 : Hid (SW v_23 (w.heap.size + 1) s) := by rw [hw2]; exact F0.out.alloc _
          replace F1 : Hid (JW v_23 (w.heap.size + 2) p) := by rw [hw2]; exact F1.out.alloc _
          replace F2 : Hid (HAt v_23 w.heap.size h) := by rw [hw2]; exact F2.out.alloc _
          replace F3 : Hid (RJ v_23 (w.heap.size + 3)) := by rw [hw2]; exact F3.out.alloc _
          replace FB : Hid (Below w.heap.size w v_23) := by rw [hw2]; exact FB.out.alloc FB.out.size _
          replace F5 : Hid (RCmd v_23 b8) := by rw [hw2]; exact F5.out.alloc _
          rw [← hw2, ← hbb]
          clear hbb hw2
          clear x0_0 x0_1 x0_2 x0_3 x0_4 x0_5 x1_0 x1_1 x1_2 x1_3 x1_4 x1_5
          obtain ⟨x0_0, x0_1, x0_2, x0_3, x0_4, x0_5, y0_0, y0_1, y0_2, y0_3, y0_4, y0_5⟩ := F0.out
          obtain ⟨x1_0, x1_1, x1_2, x1_3, x1_4, x1_5, y1_0, y1_1, y1_2, y1_3, y1_4, y1_5⟩ := F1.out
          refine hK.out _ _ (by (try dsimp only); first | exact ⟨x0_0, x0_1, x0_2, x0_3, x0_4, x0_5, x1_0, x1_1, x1_2, x1_3, x1_4, x1_5⟩ | go_keep) (fun hHeld => ?_)
          clear hK K
          try simp only [Act.put, List.getElem_toArray, List.getElem_cons_succ, List.getElem_cons_zero, List.setIfInBounds_toArray, List.set_cons_zero, List.set_cons_succ]
          refine wpAnyH_ready (rs := [12]) (by kernel_rfl) (by simp) ?_
          refine (AllReadyH.cons rfl (fun K hK => ?_) AllReadyH.nil)
          obtain ⟨x4_0, x4_1, x4_2, y4_0, y4_1, y4_2⟩ := F4.out
          go_simp
          obtain ⟨v_24, hw2⟩ : ∃ v_24, v_24 = putCmd v_23 b7 a' := ⟨_, rfl⟩
          change K _ (putCmd v_23 b7 a')
          rw [← hw2]
          clear x4_0 x4_1 x4_2 y4_0 y4_1 y4_2
          replace F0 : Hid (SW v_24 (w.heap.size + 1) s) := by rw [hw2]; exact F0.out.below (below_putCmd (Below.refl _ _) (Nat.le_refl _) a') (by omega)
          replace F1 : Hid (JW v_24 (w.heap.size + 2) p) := by rw [hw2]; exact F1.out.below (below_putCmd (Below.refl _ _) (Nat.le_refl _) a') (by omega)
          replace F2 : Hid (HAt v_24 w.heap.size h) := by rw [hw2]; exact F2.out.below (below_putCmd (Below.refl _ _) (Nat.le_refl _) a') (by omega)
          replace F3 : Hid (RJ v_24 (w.heap.size + 3)) := by rw [hw2]; exact F3.out.below (below_putCmd (Below.refl _ _) (Nat.le_refl _) a') (by omega)
          replace FB : Hid (Below w.heap.size w v_24) := by rw [hw2]; exact below_putCmd FB.out (by omega) a'
          replace F5 : Hid (RCmd v_24 b8) := by rw [hw2]; exact ((F5.out.other (by omega)).other (by omega)).other (by omega)
          replace F4 : Hid (VCmd v_24 b7 a') := by rw [hw2]; exact F4.out.put _
          clear hw2
          clear x0_0 x0_1 x0_2 x0_3 x0_4 x0_5 x1_0 x1_1 x1_2 x1_3 x1_4 x1_5
          obtain ⟨x0_0, x0_1, x0_2, x0_3, x0_4, x0_5, y0_0, y0_1, y0_2, y0_3, y0_4, y0_5⟩ := F0.out
          obtain ⟨x1_0, x1_1, x1_2, x1_3, x1_4, x1_5, y1_0, y1_1, y1_2, y1_3, y1_4, y1_5⟩ := F1.out
          refine hK.out _ _ (by (try dsimp only); first | exact ⟨x0_0, x0_1, x0_2, x0_3, x0_4, x0_5, x1_0, x1_1, x1_2, x1_3, x1_4, x1_5⟩ | go_keep) (fun hHeld => ?_)
          clear hK K
          try simp only [Act.put, List.getElem_toArray, List.getElem_cons_succ, List.getElem_cons_zero, List.setIfInBounds_toArray, List.set_cons_zero, List.set_cons_succ]
          refine wpAnyH_ready (rs := [13]) (by kernel_rfl) (by simp) ?_
          refine (AllReadyH.cons rfl (fun K hK => ?_) AllReadyH.nil)
          obtain ⟨x5_0, x5_1, x5_2, y5_0, y5_1, y5_2⟩ := F5.out
          go_simp
          obtain ⟨v_25, hw2⟩ : ∃ v_25, v_25 = putCmd v_24 b8 b' := ⟨_, rfl⟩
          change K _ (putCmd v_24 b8 b')
          rw [← hw2]
          clear x5_0 x5_1 x5_2 y5_0 y5_1 y5_2
          replace F0 : Hid (SW v_25 (w.heap.size + 1) s) := by rw [hw2]; exact F0.out.below (below_putCmd (Below.refl _ _) (Nat.le_refl _) b') (by omega)
          replace F1 : Hid (JW v_25 (w.heap.size + 2) p) := by rw [hw2]; exact F1.out.below (below_putCmd (Below.refl _ _) (Nat.le_refl _) b') (by omega)
          replace F2 : Hid (HAt v_25 w.heap.size h) := by rw [hw2]; exact F2.out.below (below_putCmd (Below.refl _ _) (Nat.le_refl _) b') (by omega)
          replace F3 : Hid (RJ v_25 (w.heap.size + 3)) := by rw [hw2]; exact F3.out.below (below_putCmd (Below.refl _ _) (Nat.le_refl _) b') (by omega)
          replace FB : Hid (Below w.heap.size w v_25) := by rw [hw2]; exact below_putCmd FB.out (by omega) b'
          replace F5 : Hid (VCmd v_25 b8 b') := by rw [hw2]; exact F5.out.put _
          replace F4 : Hid (VCmd v_25 b7 a') := by rw [hw2]; exact ((F4.out.other (by omega)).other (by omega)).other (by omega)
          clear hw2
          clear x0_0 x0_1 x0_2 x0_3 x0_4 x0_5 x1_0 x1_1 x1_2 x1_3 x1_4 x1_5
          obtain ⟨x0_0, x0_1, x0_2, x0_3, x0_4, x0_5, y0_0, y0_1, y0_2, y0_3, y0_4, y0_5⟩ := F0.out
          obtain ⟨x1_0, x1_1, x1_2, x1_3, x1_4, x1_5, y1_0, y1_1, y1_2, y1_3, y1_4, y1_5⟩ := F1.out
          refine hK.out _ _ (by (try dsimp only); first | exact ⟨x0_0, x0_1, x0_2, x0_3, x0_4, x0_5, x1_0, x1_1, x1_2, x1_3, x1_4, x1_5⟩ | go_keep) (fun hHeld => ?_)
          clear hK K
          try simp only [Act.put, List.getElem_toArray, List.getElem_cons_succ, List.getElem_cons_zero, List.setIfInBounds_toArray, List.set_cons_zero, List.set_cons_succ]
          refine wpAnyH_done (by kernel_rfl) ?_ _
          go_wp2_with fail
          go_meet
          case rel => exact ⟨b7, b8, rfl, rfl, by omega, by omega, by omega, F2.out, F0.out, F1.out, F3.out, F4.out, F5.out, FB.out⟩
        · go_simp
          obtain ⟨b7, hbb⟩ : ∃ b7, b7 = v_21.heap.size := ⟨_, rfl⟩
          obtain ⟨v_26, hw2⟩ : ∃ v_26, v_26 = v_21.alloc (.cells #[.int .i64 0, .bool false, .bool false] 29) := ⟨_, rfl⟩
          have nb7_0 := F0.out.lt
          rw [← hbb] at nb7_0
          have nb7_1 := F1.out.lt
          rw [← hbb] at nb7_1
          have nb7_2 := F2.out.lt
          rw [← hbb] at nb7_2
          have nb7_3 := F3.out.lt
          rw [← hbb] at nb7_3
          have nb7_5 := F5.out.lt
          rw [← hbb] at nb7_5
          have F4 : Hid (RCmd v_26 b7) := by rw [hw2]; exact RCmd.at_ v_21 _ b7 hbb
          replace F0 : Hid (SW v_26 (w.heap.size + 1) s) := by rw [hw2]; exact F0.out.alloc _
          replace F1 : Hid (JW v_26 (w.heap.size + 2) p) := by rw [hw2]; exact F1.out.alloc _
          replace F2 : Hid (HAt v_26 w.heap.size h) := by rw [hw2]; exact F2.out.alloc _
          replace F3 : Hid (RJ v_26 (w.heap.size + 3)) := by rw [hw2]; exact F3.out.alloc _
          replace FB : Hid (Below w.heap.size w v_26) := by rw [hw2]; exact FB.out.alloc FB.out.size _
          replace F5 : Hid (RCmd v_26 b8) := by rw [hw2]; exact F5.out.alloc _
          rw [← hw2, ← hbb]
          clear hbb hw2
          clear x0_0 x0_1 x0_2 x0_3 x0_4 x0_5 x1_0 x1_1 x1_2 x1_3 x1_4 x1_5
          obtain ⟨x0_0, x0_1, x0_2, x0_3, x0_4, x0_5, y0_0, y0_1, y0_2, y0_3, y0_4, y0_5⟩ := F0.out
          obtain ⟨x1_0, x1_1, x1_2, x1_3, x1_4, x1_5, y1_0, y1_1, y1_2, y1_3, y1_4, y1_5⟩ := F1.out
          refine hK.out _ _ (by (try dsimp only); first | exact ⟨x0_0, x0_1, x0_2, x0_3, x0_4, x0_5, x1_0, x1_1, x1_2, x1_3, x1_4, x1_5⟩ | go_keep) (fun hHeld => ?_)
          clear hK K
          try simp only [Act.put, List.getElem_toArray, List.getElem_cons_succ, List.getElem_cons_zero, List.setIfInBounds_toArray, List.set_cons_zero, List.set_cons_succ]
          refine wpAnyH_ready (rs := [9]) (by kernel_rfl) (by simp) ?_
          refine (AllReadyH.cons rfl (fun K hK => ?_) AllReadyH.nil)
          go_simp
          refine (heldBack_any s.up p.b b' (by rw [HP.out]; exact HB.out) _).mono ?_
          rintro e v_27 ⟨rfl, hb⟩
          replace F0 : Hid (SW v_27 (w.heap.size + 1) s) := F0.out.below hb F0.out.lt
          replace F1 : Hid (JW v_27 (w.heap.size + 2) p) := F1.out.below hb F1.out.lt
          replace F2 : Hid (HAt v_27 w.heap.size h) := F2.out.below hb F2.out.lt
          replace F3 : Hid (RJ v_27 (w.heap.size + 3)) := F3.out.below hb F3.out.lt
          replace FB : Hid (Below w.heap.size w v_27) := FB.out.trans (hb.mono FB.out.size)
          replace F5 : Hid (RCmd v_27 b8) := F5.out.below hb F5.out.lt
          replace F4 : Hid (RCmd v_27 b7) := F4.out.below hb F4.out.lt
          clear hb
          clear x0_0 x0_1 x0_2 x0_3 x0_4 x0_5 x1_0 x1_1 x1_2 x1_3 x1_4 x1_5
          obtain ⟨x0_0, x0_1, x0_2, x0_3, x0_4, x0_5, y0_0, y0_1, y0_2, y0_3, y0_4, y0_5⟩ := F0.out
          obtain ⟨x1_0, x1_1, x1_2, x1_3, x1_4, x1_5, y1_0, y1_1, y1_2, y1_3, y1_4, y1_5⟩ := F1.out
          try dsimp only
          refine hK.out _ _ (by (try dsimp only); first | exact ⟨x0_0, x0_1, x0_2, x0_3, x0_4, x0_5, x1_0, x1_1, x1_2, x1_3, x1_4, x1_5⟩ | go_keep) (fun hHeld => ?_)
          clear hK K
          try simp only [Act.put, List.getElem_toArray, List.getElem_cons_succ, List.getElem_cons_zero, List.setIfInBounds_toArray, List.set_cons_zero, List.set_cons_succ]
          refine wpAnyH_ready (rs := [12]) (by kernel_rfl) (by simp) ?_
          refine (AllReadyH.cons rfl (fun K hK => ?_) AllReadyH.nil)
          obtain ⟨x4_0, x4_1, x4_2, y4_0, y4_1, y4_2⟩ := F4.out
          go_simp
          obtain ⟨v_28, hw2⟩ : ∃ v_28, v_28 = putCmd v_27 b7 a' := ⟨_, rfl⟩
          change K _ (putCmd v_27 b7 a')
          rw [← hw2]
          clear x4_0 x4_1 x4_2 y4_0 y4_1 y4_2
          replace F0 : Hid (SW v_28 (w.heap.size + 1) s) := by rw [hw2]; exact F0.out.below (below_putCmd (Below.refl _ _) (Nat.le_refl _) a') (by omega)
          replace F1 : Hid (JW v_28 (w.heap.size + 2) p) := by rw [hw2]; exact F1.out.below (below_putCmd (Below.refl _ _) (Nat.le_refl _) a') (by omega)
          replace F2 : Hid (HAt v_28 w.heap.size h) := by rw [hw2]; exact F2.out.below (below_putCmd (Below.refl _ _) (Nat.le_refl _) a') (by omega)
          replace F3 : Hid (RJ v_28 (w.heap.size + 3)) := by rw [hw2]; exact F3.out.below (below_putCmd (Below.refl _ _) (Nat.le_refl _) a') (by omega)
          replace FB : Hid (Below w.heap.size w v_28) := by rw [hw2]; exact below_putCmd FB.out (by omega) a'
          replace F5 : Hid (RCmd v_28 b8) := by rw [hw2]; exact ((F5.out.other (by omega)).other (by omega)).other (by omega)
          replace F4 : Hid (VCmd v_28 b7 a') := by rw [hw2]; exact F4.out.put _
          clear hw2
          clear x0_0 x0_1 x0_2 x0_3 x0_4 x0_5 x1_0 x1_1 x1_2 x1_3 x1_4 x1_5
          obtain ⟨x0_0, x0_1, x0_2, x0_3, x0_4, x0_5, y0_0, y0_1, y0_2, y0_3, y0_4, y0_5⟩ := F0.out
          obtain ⟨x1_0, x1_1, x1_2, x1_3, x1_4, x1_5, y1_0, y1_1, y1_2, y1_3, y1_4, y1_5⟩ := F1.out
          refine hK.out _ _ (by (try dsimp only); first | exact ⟨x0_0, x0_1, x0_2, x0_3, x0_4, x0_5, x1_0, x1_1, x1_2, x1_3, x1_4, x1_5⟩ | go_keep) (fun hHeld => ?_)
          clear hK K
          try simp only [Act.put, List.getElem_toArray, List.getElem_cons_succ, List.getElem_cons_zero, List.setIfInBounds_toArray, List.set_cons_zero, List.set_cons_succ]
          refine wpAnyH_ready (rs := [13]) (by kernel_rfl) (by simp) ?_
          refine (AllReadyH.cons rfl (fun K hK => ?_) AllReadyH.nil)
          obtain ⟨x5_0, x5_1, x5_2, y5_0, y5_1, y5_2⟩ := F5.out
          go_simp
          obtain ⟨v_29, hw2⟩ : ∃ v_29, v_29 = putCmd v_28 b8 b' := ⟨_, rfl⟩
          change K _ (putCmd v_28 b8 b')
          rw [← hw2]
          clear x5_0 x5_1 x5_2 y5_0 y5_1 y5_2
          replace F0 : Hid (SW v_29 (w.heap.size + 1) s) := by rw [hw2]; exact F0.out.below (below_putCmd (Below.refl _ _) (Nat.le_refl _) b') (by omega)
          replace F1 : Hid (JW v_29 (w.heap.size + 2) p) := by rw [hw2]; exact F1.out.below (below_putCmd (Below.refl _ _) (Nat.le_refl _) b') (by omega)
          replace F2 : Hid (HAt v_29 w.heap.size h) := by rw [hw2]; exact F2.out.below (below_putCmd (Below.refl _ _) (Nat.le_refl _) b') (by omega)
          replace F3 : Hid (RJ v_29 (w.heap.size + 3)) := by rw [hw2]; exact F3.out.below (below_putCmd (Below.refl _ _) (Nat.le_refl _) b') (by omega)
          replace FB : Hid (Below w.heap.size w v_29) := by rw [hw2]; exact below_putCmd FB.out (by omega) b'
          replace F5 : Hid (VCmd v_29 b8 b') := by rw [hw2]; exact F5.out.put _
          replace F4 : Hid (VCmd v_29 b7 a') := by rw [hw2]; exact ((F4.out.other (by omega)).other (by omega)).other (by omega)
          clear hw2
          clear x0_0 x0_1 x0_2 x0_3 x0_4 x0_5 x1_0 x1_1 x1_2 x1_3 x1_4 x1_5
          obtain ⟨x0_0, x0_1, x0_2, x0_3, x0_4, x0_5, y0_0, y0_1, y0_2, y0_3, y0_4, y0_5⟩ := F0.out
          obtain ⟨x1_0, x1_1, x1_2, x1_3, x1_4, x1_5, y1_0, y1_1, y1_2, y1_3, y1_4, y1_5⟩ := F1.out
          refine hK.out _ _ (by (try dsimp only); first | exact ⟨x0_0, x0_1, x0_2, x0_3, x0_4, x0_5, x1_0, x1_1, x1_2, x1_3, x1_4, x1_5⟩ | go_keep) (fun hHeld => ?_)
          clear hK K
          try simp only [Act.put, List.getElem_toArray, List.getElem_cons_succ, List.getElem_cons_zero, List.setIfInBounds_toArray, List.set_cons_zero, List.set_cons_succ]
          refine wpAnyH_done (by kernel_rfl) ?_ _
          go_wp2_with fail
          go_meet
          case rel => exact ⟨b7, b8, rfl, rfl, by omega, by omega, by omega, F2.out, F0.out, F1.out, F3.out, F4.out, F5.out, FB.out⟩
    · go_simp
      obtain ⟨b7, hbb⟩ : ∃ b7, b7 = v_1.heap.size := ⟨_, rfl⟩
      obtain ⟨v_30, hw2⟩ : ∃ v_30, v_30 = v_1.alloc (.cells #[.int .i64 0, .bool false, .bool false] 29) := ⟨_, rfl⟩
      have nb7_0 := F0.out.lt
      rw [← hbb] at nb7_0
      have nb7_1 := F1.out.lt
      rw [← hbb] at nb7_1
      have nb7_2 := F2.out.lt
      rw [← hbb] at nb7_2
      have nb7_3 := F3.out.lt
      rw [← hbb] at nb7_3
      have F4 : Hid (RCmd v_30 b7) := by rw [hw2]; exact RCmd.at_ v_1 _ b7 hbb
      replace F0 : Hid (SW v_30 (w.heap.size + 1) s) := by rw [hw2]; exact F0.out.alloc _
      replace F1 : Hid (JW v_30 (w.heap.size + 2) p) := by rw [hw2]; exact F1.out.alloc _
      replace F2 : Hid (HAt v_30 w.heap.size h) := by rw [hw2]; exact F2.out.alloc _
      replace F3 : Hid (RJ v_30 (w.heap.size + 3)) := by rw [hw2]; exact F3.out.alloc _
      replace FB : Hid (Below w.heap.size w v_30) := by rw [hw2]; exact FB.out.alloc FB.out.size _
      rw [← hw2, ← hbb]
      clear hbb hw2
      clear x0_0 x0_1 x0_2 x0_3 x0_4 x0_5 x1_0 x1_1 x1_2 x1_3 x1_4 x1_5
      obtain ⟨x0_0, x0_1, x0_2, x0_3, x0_4, x0_5, y0_0, y0_1, y0_2, y0_3, y0_4, y0_5⟩ := F0.out
      obtain ⟨x1_0, x1_1, x1_2, x1_3, x1_4, x1_5, y1_0, y1_1, y1_2, y1_3, y1_4, y1_5⟩ := F1.out
      refine hK.out _ _ (by (try dsimp only); first | exact ⟨x0_0, x0_1, x0_2, x0_3, x0_4, x0_5, x1_0, x1_1, x1_2, x1_3, x1_4, x1_5⟩ | go_keep) (fun hHeld => ?_)
      clear hK K
      try simp only [Act.put, List.getElem_toArray, List.getElem_cons_succ, List.getElem_cons_zero, List.setIfInBounds_toArray, List.set_cons_zero, List.set_cons_succ]
      refine wpAnyH_ready (rs := [4, 11]) (by kernel_rfl) (by simp) ?_
      refine (AllReadyH.cons rfl (fun K hK => ?_) (AllReadyH.cons rfl (fun K hK => ?_) AllReadyH.nil))
      · go_simp
        refine (heldBack_any s.lo p.a a' (by rw [HP.out]; exact HA.out) _).mono ?_
        rintro e v_31 ⟨rfl, hb⟩
        replace F0 : Hid (SW v_31 (w.heap.size + 1) s) := F0.out.below hb F0.out.lt
        replace F1 : Hid (JW v_31 (w.heap.size + 2) p) := F1.out.below hb F1.out.lt
        replace F2 : Hid (HAt v_31 w.heap.size h) := F2.out.below hb F2.out.lt
        replace F3 : Hid (RJ v_31 (w.heap.size + 3)) := F3.out.below hb F3.out.lt
        replace FB : Hid (Below w.heap.size w v_31) := FB.out.trans (hb.mono FB.out.size)
        replace F4 : Hid (RCmd v_31 b7) := F4.out.below hb F4.out.lt
        clear hb
        clear x0_0 x0_1 x0_2 x0_3 x0_4 x0_5 x1_0 x1_1 x1_2 x1_3 x1_4 x1_5
        obtain ⟨x0_0, x0_1, x0_2, x0_3, x0_4, x0_5, y0_0, y0_1, y0_2, y0_3, y0_4, y0_5⟩ := F0.out
        obtain ⟨x1_0, x1_1, x1_2, x1_3, x1_4, x1_5, y1_0, y1_1, y1_2, y1_3, y1_4, y1_5⟩ := F1.out
        try dsimp only
        refine hK.out _ _ (by (try dsimp only); first | exact ⟨x0_0, x0_1, x0_2, x0_3, x0_4, x0_5, x1_0, x1_1, x1_2, x1_3, x1_4, x1_5⟩ | go_keep) (fun hHeld => ?_)
        clear hK K
        try simp only [Act.put, List.getElem_toArray, List.getElem_cons_succ, List.getElem_cons_zero, List.setIfInBounds_toArray, List.set_cons_zero, List.set_cons_succ]
        refine wpAnyH_ready (rs := [9, 11]) (by kernel_rfl) (by simp) ?_
        refine (AllReadyH.cons rfl (fun K hK => ?_) (AllReadyH.cons rfl (fun K hK => ?_) AllReadyH.nil))
        · go_simp
          refine (heldBack_any s.up p.b b' (by rw [HP.out]; exact HB.out) _).mono ?_
          rintro e v_32 ⟨rfl, hb⟩
          replace F0 : Hid (SW v_32 (w.heap.size + 1) s) := F0.out.below hb F0.out.lt
          replace F1 : Hid (JW v_32 (w.heap.size + 2) p) := F1.out.below hb F1.out.lt
          replace F2 : Hid (HAt v_32 w.heap.size h) := F2.out.below hb F2.out.lt
          replace F3 : Hid (RJ v_32 (w.heap.size + 3)) := F3.out.below hb F3.out.lt
          replace FB : Hid (Below w.heap.size w v_32) := FB.out.trans (hb.mono FB.out.size)
          replace F4 : Hid (RCmd v_32 b7) := F4.out.below hb F4.out.lt
          clear hb
          clear x0_0 x0_1 x0_2 x0_3 x0_4 x0_5 x1_0 x1_1 x1_2 x1_3 x1_4 x1_5
          obtain ⟨x0_0, x0_1, x0_2, x0_3, x0_4, x0_5, y0_0, y0_1, y0_2, y0_3, y0_4, y0_5⟩ := F0.out
          obtain ⟨x1_0, x1_1, x1_2, x1_3, x1_4, x1_5, y1_0, y1_1, y1_2, y1_3, y1_4, y1_5⟩ := F1.out
          try dsimp only
          refine hK.out _ _ (by (try dsimp only); first | exact ⟨x0_0, x0_1, x0_2, x0_3, x0_4, x0_5, x1_0, x1_1, x1_2, x1_3, x1_4, x1_5⟩ | go_keep) (fun hHeld => ?_)
          clear hK K
          try simp only [Act.put, List.getElem_toArray, List.getElem_cons_succ, List.getElem_cons_zero, List.setIfInBounds_toArray, List.set_cons_zero, List.set_cons_succ]
          refine wpAnyH_ready (rs := [11]) (by kernel_rfl) (by simp) ?_
          refine (AllReadyH.cons rfl (fun K hK => ?_) AllReadyH.nil)
          go_simp
          obtain ⟨b8, hbb⟩ : ∃ b8, b8 = v_32.heap.size := ⟨_, rfl⟩
          obtain ⟨v_33, hw2⟩ : ∃ v_33, v_33 = v_32.alloc (.cells #[.int .i64 0, .bool false, .bool false] 29) := ⟨_, rfl⟩
          have nb8_0 := F0.out.lt
          rw [← hbb] at nb8_0
          have nb8_1 := F1.out.lt
          rw [← hbb] at nb8_1
          have nb8_2 := F2.out.lt
          rw [← hbb] at nb8_2
          have nb8_3 := F3.out.lt
          rw [← hbb] at nb8_3
          have nb8_5 := F4.out.lt
          rw [← hbb] at nb8_5
          have F5 : Hid (RCmd v_33 b8) := by rw [hw2]; exact RCmd.at_ v_32 _ b8 hbb
          replace F0 : Hid (SW v_33 (w.heap.size + 1) s) := by rw [hw2]; exact F0.out.alloc _
          replace F1 : Hid (JW v_33 (w.heap.size + 2) p) := by rw [hw2]; exact F1.out.alloc _
          replace F2 : Hid (HAt v_33 w.heap.size h) := by rw [hw2]; exact F2.out.alloc _
          replace F3 : Hid (RJ v_33 (w.heap.size + 3)) := by rw [hw2]; exact F3.out.alloc _
          replace FB : Hid (Below w.heap.size w v_33) := by rw [hw2]; exact FB.out.alloc FB.out.size _
          replace F4 : Hid (RCmd v_33 b7) := by rw [hw2]; exact F4.out.alloc _
          rw [← hw2, ← hbb]
          clear hbb hw2
          clear x0_0 x0_1 x0_2 x0_3 x0_4 x0_5 x1_0 x1_1 x1_2 x1_3 x1_4 x1_5
          obtain ⟨x0_0, x0_1, x0_2, x0_3, x0_4, x0_5, y0_0, y0_1, y0_2, y0_3, y0_4, y0_5⟩ := F0.out
          obtain ⟨x1_0, x1_1, x1_2, x1_3, x1_4, x1_5, y1_0, y1_1, y1_2, y1_3, y1_4, y1_5⟩ := F1.out
          refine hK.out _ _ (by (try dsimp only); first | exact ⟨x0_0, x0_1, x0_2, x0_3, x0_4, x0_5, x1_0, x1_1, x1_2, x1_3, x1_4, x1_5⟩ | go_keep) (fun hHeld => ?_)
          clear hK K
          try simp only [Act.put, List.getElem_toArray, List.getElem_cons_succ, List.getElem_cons_zero, List.setIfInBounds_toArray, List.set_cons_zero, List.set_cons_succ]
          refine wpAnyH_ready (rs := [12]) (by kernel_rfl) (by simp) ?_
          refine (AllReadyH.cons rfl (fun K hK => ?_) AllReadyH.nil)
          obtain ⟨x4_0, x4_1, x4_2, y4_0, y4_1, y4_2⟩ := F4.out
          go_simp
          obtain ⟨v_34, hw2⟩ : ∃ v_34, v_34 = putCmd v_33 b7 a' := ⟨_, rfl⟩
          change K _ (putCmd v_33 b7 a')
          rw [← hw2]
          clear x4_0 x4_1 x4_2 y4_0 y4_1 y4_2
          replace F0 : Hid (SW v_34 (w.heap.size + 1) s) := by rw [hw2]; exact F0.out.below (below_putCmd (Below.refl _ _) (Nat.le_refl _) a') (by omega)
          replace F1 : Hid (JW v_34 (w.heap.size + 2) p) := by rw [hw2]; exact F1.out.below (below_putCmd (Below.refl _ _) (Nat.le_refl _) a') (by omega)
          replace F2 : Hid (HAt v_34 w.heap.size h) := by rw [hw2]; exact F2.out.below (below_putCmd (Below.refl _ _) (Nat.le_refl _) a') (by omega)
          replace F3 : Hid (RJ v_34 (w.heap.size + 3)) := by rw [hw2]; exact F3.out.below (below_putCmd (Below.refl _ _) (Nat.le_refl _) a') (by omega)
          replace FB : Hid (Below w.heap.size w v_34) := by rw [hw2]; exact below_putCmd FB.out (by omega) a'
          replace F4 : Hid (VCmd v_34 b7 a') := by rw [hw2]; exact F4.out.put _
          replace F5 : Hid (RCmd v_34 b8) := by rw [hw2]; exact ((F5.out.other (by omega)).other (by omega)).other (by omega)
          clear hw2
          clear x0_0 x0_1 x0_2 x0_3 x0_4 x0_5 x1_0 x1_1 x1_2 x1_3 x1_4 x1_5
          obtain ⟨x0_0, x0_1, x0_2, x0_3, x0_4, x0_5, y0_0, y0_1, y0_2, y0_3, y0_4, y0_5⟩ := F0.out
          obtain ⟨x1_0, x1_1, x1_2, x1_3, x1_4, x1_5, y1_0, y1_1, y1_2, y1_3, y1_4, y1_5⟩ := F1.out
          refine hK.out _ _ (by (try dsimp only); first | exact ⟨x0_0, x0_1, x0_2, x0_3, x0_4, x0_5, x1_0, x1_1, x1_2, x1_3, x1_4, x1_5⟩ | go_keep) (fun hHeld => ?_)
          clear hK K
          try simp only [Act.put, List.getElem_toArray, List.getElem_cons_succ, List.getElem_cons_zero, List.setIfInBounds_toArray, List.set_cons_zero, List.set_cons_succ]
          refine wpAnyH_ready (rs := [13]) (by kernel_rfl) (by simp) ?_
          refine (AllReadyH.cons rfl (fun K hK => ?_) AllReadyH.nil)
          obtain ⟨x5_0, x5_1, x5_2, y5_0, y5_1, y5_2⟩ := F5.out
          go_simp
          obtain ⟨v_35, hw2⟩ : ∃ v_35, v_35 = putCmd v_34 b8 b' := ⟨_, rfl⟩
          change K _ (putCmd v_34 b8 b')
          rw [← hw2]
          clear x5_0 x5_1 x5_2 y5_0 y5_1 y5_2
          replace F0 : Hid (SW v_35 (w.heap.size + 1) s) := by rw [hw2]; exact F0.out.below (below_putCmd (Below.refl _ _) (Nat.le_refl _) b') (by omega)
          replace F1 : Hid (JW v_35 (w.heap.size + 2) p) := by rw [hw2]; exact F1.out.below (below_putCmd (Below.refl _ _) (Nat.le_refl _) b') (by omega)
          replace F2 : Hid (HAt v_35 w.heap.size h) := by rw [hw2]; exact F2.out.below (below_putCmd (Below.refl _ _) (Nat.le_refl _) b') (by omega)
          replace F3 : Hid (RJ v_35 (w.heap.size + 3)) := by rw [hw2]; exact F3.out.below (below_putCmd (Below.refl _ _) (Nat.le_refl _) b') (by omega)
          replace FB : Hid (Below w.heap.size w v_35) := by rw [hw2]; exact below_putCmd FB.out (by omega) b'
          replace F4 : Hid (VCmd v_35 b7 a') := by rw [hw2]; exact ((F4.out.other (by omega)).other (by omega)).other (by omega)
          replace F5 : Hid (VCmd v_35 b8 b') := by rw [hw2]; exact F5.out.put _
          clear hw2
          clear x0_0 x0_1 x0_2 x0_3 x0_4 x0_5 x1_0 x1_1 x1_2 x1_3 x1_4 x1_5
          obtain ⟨x0_0, x0_1, x0_2, x0_3, x0_4, x0_5, y0_0, y0_1, y0_2, y0_3, y0_4, y0_5⟩ := F0.out
          obtain ⟨x1_0, x1_1, x1_2, x1_3, x1_4, x1_5, y1_0, y1_1, y1_2, y1_3, y1_4, y1_5⟩ := F1.out
          refine hK.out _ _ (by (try dsimp only); first | exact ⟨x0_0, x0_1, x0_2, x0_3, x0_4, x0_5, x1_0, x1_1, x1_2, x1_3, x1_4, x1_5⟩ | go_keep) (fun hHeld => ?_)
          clear hK K
          try simp only [Act.put, List.getElem_toArray, List.getElem_cons_succ, List.getElem_cons_zero, List.setIfInBounds_toArray, List.set_cons_zero, List.set_cons_succ]
          refine wpAnyH_done (by kernel_rfl) ?_ _
          go_wp2_with fail
          go_meet
          case rel => exact ⟨b7, b8, rfl, rfl, by omega, by omega, by omega, F2.out, F0.out, F1.out, F3.out, F4.out, F5.out, FB.out⟩
        · go_simp
          obtain ⟨b8, hbb⟩ : ∃ b8, b8 = v_31.heap.size := ⟨_, rfl⟩
          obtain ⟨v_36, hw2⟩ : ∃ v_36, v_36 = v_31.alloc (.cells #[.int .i64 0, .bool false, .bool false] 29) := ⟨_, rfl⟩
          have nb8_0 := F0.out.lt
          rw [← hbb] at nb8_0
          have nb8_1 := F1.out.lt
          rw [← hbb] at nb8_1
          have nb8_2 := F2.out.lt
          rw [← hbb] at nb8_2
          have nb8_3 := F3.out.lt
          rw [← hbb] at nb8_3
          have nb8_5 := F4.out.lt
          rw [← hbb] at nb8_5
          have F5 : Hid (RCmd v_36 b8) := by rw [hw2]; exact RCmd.at_ v_31 _ b8 hbb
          replace F0 : Hid (SW v_36 (w.heap.size + 1) s) := by rw [hw2]; exact F0.out.alloc _
          replace F1 : Hid (JW v_36 (w.heap.size + 2) p) := by rw [hw2]; exact F1.out.alloc _
          replace F2 : Hid (HAt v_36 w.heap.size h) := by rw [hw2]; exact F2.out.alloc _
          replace F3 : Hid (RJ v_36 (w.heap.size + 3)) := by rw [hw2]; exact F3.out.alloc _
          replace FB : Hid (Below w.heap.size w v_36) := by rw [hw2]; exact FB.out.alloc FB.out.size _
          replace F4 : Hid (RCmd v_36 b7) := by rw [hw2]; exact F4.out.alloc _
          rw [← hw2, ← hbb]
          clear hbb hw2
          clear x0_0 x0_1 x0_2 x0_3 x0_4 x0_5 x1_0 x1_1 x1_2 x1_3 x1_4 x1_5
          obtain ⟨x0_0, x0_1, x0_2, x0_3, x0_4, x0_5, y0_0, y0_1, y0_2, y0_3, y0_4, y0_5⟩ := F0.out
          obtain ⟨x1_0, x1_1, x1_2, x1_3, x1_4, x1_5, y1_0, y1_1, y1_2, y1_3, y1_4, y1_5⟩ := F1.out
          refine hK.out _ _ (by (try dsimp only); first | exact ⟨x0_0, x0_1, x0_2, x0_3, x0_4, x0_5, x1_0, x1_1, x1_2, x1_3, x1_4, x1_5⟩ | go_keep) (fun hHeld => ?_)
          clear hK K
          try simp only [Act.put, List.getElem_toArray, List.getElem_cons_succ, List.getElem_cons_zero, List.setIfInBounds_toArray, List.set_cons_zero, List.set_cons_succ]
          refine wpAnyH_ready (rs := [9]) (by kernel_rfl) (by simp) ?_
          refine (AllReadyH.cons rfl (fun K hK => ?_) AllReadyH.nil)
          go_simp
          refine (heldBack_any s.up p.b b' (by rw [HP.out]; exact HB.out) _).mono ?_
          rintro e v_37 ⟨rfl, hb⟩
          replace F0 : Hid (SW v_37 (w.heap.size + 1) s) := F0.out.below hb F0.out.lt
          replace F1 : Hid (JW v_37 (w.heap.size + 2) p) := F1.out.below hb F1.out.lt
          replace F2 : Hid (HAt v_37 w.heap.size h) := F2.out.below hb F2.out.lt
          replace F3 : Hid (RJ v_37 (w.heap.size + 3)) := F3.out.below hb F3.out.lt
          replace FB : Hid (Below w.heap.size w v_37) := FB.out.trans (hb.mono FB.out.size)
          replace F4 : Hid (RCmd v_37 b7) := F4.out.below hb F4.out.lt
          replace F5 : Hid (RCmd v_37 b8) := F5.out.below hb F5.out.lt
          clear hb
          clear x0_0 x0_1 x0_2 x0_3 x0_4 x0_5 x1_0 x1_1 x1_2 x1_3 x1_4 x1_5
          obtain ⟨x0_0, x0_1, x0_2, x0_3, x0_4, x0_5, y0_0, y0_1, y0_2, y0_3, y0_4, y0_5⟩ := F0.out
          obtain ⟨x1_0, x1_1, x1_2, x1_3, x1_4, x1_5, y1_0, y1_1, y1_2, y1_3, y1_4, y1_5⟩ := F1.out
          try dsimp only
          refine hK.out _ _ (by (try dsimp only); first | exact ⟨x0_0, x0_1, x0_2, x0_3, x0_4, x0_5, x1_0, x1_1, x1_2, x1_3, x1_4, x1_5⟩ | go_keep) (fun hHeld => ?_)
          clear hK K
          try simp only [Act.put, List.getElem_toArray, List.getElem_cons_succ, List.getElem_cons_zero, List.setIfInBounds_toArray, List.set_cons_zero, List.set_cons_succ]
          refine wpAnyH_ready (rs := [12]) (by kernel_rfl) (by simp) ?_
          refine (AllReadyH.cons rfl (fun K hK => ?_) AllReadyH.nil)
          obtain ⟨x4_0, x4_1, x4_2, y4_0, y4_1, y4_2⟩ := F4.out
          go_simp
          obtain ⟨v_38, hw2⟩ : ∃ v_38, v_38 = putCmd v_37 b7 a' := ⟨_, rfl⟩
          change K _ (putCmd v_37 b7 a')
          rw [← hw2]
          clear x4_0 x4_1 x4_2 y4_0 y4_1 y4_2
          replace F0 : Hid (SW v_38 (w.heap.size + 1) s) := by rw [hw2]; exact F0.out.below (below_putCmd (Below.refl _ _) (Nat.le_refl _) a') (by omega)
          replace F1 : Hid (JW v_38 (w.heap.size + 2) p) := by rw [hw2]; exact F1.out.below (below_putCmd (Below.refl _ _) (Nat.le_refl _) a') (by omega)
          replace F2 : Hid (HAt v_38 w.heap.size h) := by rw [hw2]; exact F2.out.below (below_putCmd (Below.refl _ _) (Nat.le_refl _) a') (by omega)
          replace F3 : Hid (RJ v_38 (w.heap.size + 3)) := by rw [hw2]; exact F3.out.below (below_putCmd (Below.refl _ _) (Nat.le_refl _) a') (by omega)
          replace FB : Hid (Below w.heap.size w v_38) := by rw [hw2]; exact below_putCmd FB.out (by omega) a'
          replace F4 : Hid (VCmd v_38 b7 a') := by rw [hw2]; exact F4.out.put _
          replace F5 : Hid (RCmd v_38 b8) := by rw [hw2]; exact ((F5.out.other (by omega)).other (by omega)).other (by omega)
          clear hw2
          clear x0_0 x0_1 x0_2 x0_3 x0_4 x0_5 x1_0 x1_1 x1_2 x1_3 x1_4 x1_5
          obtain ⟨x0_0, x0_1, x0_2, x0_3, x0_4, x0_5, y0_0, y0_1, y0_2, y0_3, y0_4, y0_5⟩ := F0.out
          obtain ⟨x1_0, x1_1, x1_2, x1_3, x1_4, x1_5, y1_0, y1_1, y1_2, y1_3, y1_4, y1_5⟩ := F1.out
          refine hK.out _ _ (by (try dsimp only); first | exact ⟨x0_0, x0_1, x0_2, x0_3, x0_4, x0_5, x1_0, x1_1, x1_2, x1_3, x1_4, x1_5⟩ | go_keep) (fun hHeld => ?_)
          clear hK K
          try simp only [Act.put, List.getElem_toArray, List.getElem_cons_succ, List.getElem_cons_zero, List.setIfInBounds_toArray, List.set_cons_zero, List.set_cons_succ]
          refine wpAnyH_ready (rs := [13]) (by kernel_rfl) (by simp) ?_
          refine (AllReadyH.cons rfl (fun K hK => ?_) AllReadyH.nil)
          obtain ⟨x5_0, x5_1, x5_2, y5_0, y5_1, y5_2⟩ := F5.out
          go_simp
          obtain ⟨v_39, hw2⟩ : ∃ v_39, v_39 = putCmd v_38 b8 b' := ⟨_, rfl⟩
          change K _ (putCmd v_38 b8 b')
          rw [← hw2]
          clear x5_0 x5_1 x5_2 y5_0 y5_1 y5_2
          replace F0 : Hid (SW v_39 (w.heap.size + 1) s) := by rw [hw2]; exact F0.out.below (below_putCmd (Below.refl _ _) (Nat.le_refl _) b') (by omega)
          replace F1 : Hid (JW v_39 (w.heap.size + 2) p) := by rw [hw2]; exact F1.out.below (below_putCmd (Below.refl _ _) (Nat.le_refl _) b') (by omega)
          replace F2 : Hid (HAt v_39 w.heap.size h) := by rw [hw2]; exact F2.out.below (below_putCmd (Below.refl _ _) (Nat.le_refl _) b') (by omega)
          replace F3 : Hid (RJ v_39 (w.heap.size + 3)) := by rw [hw2]; exact F3.out.below (below_putCmd (Below.refl _ _) (Nat.le_refl _) b') (by omega)
          replace FB : Hid (Below w.heap.size w v_39) := by rw [hw2]; exact below_putCmd FB.out (by omega) b'
          replace F4 : Hid (VCmd v_39 b7 a') := by rw [hw2]; exact ((F4.out.other (by omega)).other (by omega)).other (by omega)
          replace F5 : Hid (VCmd v_39 b8 b') := by rw [hw2]; exact F5.out.put _
          clear hw2
          clear x0_0 x0_1 x0_2 x0_3 x0_4 x0_5 x1_0 x1_1 x1_2 x1_3 x1_4 x1_5
          obtain ⟨x0_0, x0_1, x0_2, x0_3, x0_4, x0_5, y0_0, y0_1, y0_2, y0_3, y0_4, y0_5⟩ := F0.out
          obtain ⟨x1_0, x1_1, x1_2, x1_3, x1_4, x1_5, y1_0, y1_1, y1_2, y1_3, y1_4, y1_5⟩ := F1.out
          refine hK.out _ _ (by (try dsimp only); first | exact ⟨x0_0, x0_1, x0_2, x0_3, x0_4, x0_5, x1_0, x1_1, x1_2, x1_3, x1_4, x1_5⟩ | go_keep) (fun hHeld => ?_)
          clear hK K
          try simp only [Act.put, List.getElem_toArray, List.getElem_cons_succ, List.getElem_cons_zero, List.setIfInBounds_toArray, List.set_cons_zero, List.set_cons_succ]
          refine wpAnyH_done (by kernel_rfl) ?_ _
          go_wp2_with fail
          go_meet
          case rel => exact ⟨b7, b8, rfl, rfl, by omega, by omega, by omega, F2.out, F0.out, F1.out, F3.out, F4.out, F5.out, FB.out⟩
      · go_simp
        obtain ⟨b8, hbb⟩ : ∃ b8, b8 = v_30.heap.size := ⟨_, rfl⟩
        obtain ⟨v_40, hw2⟩ : ∃ v_40, v_40 = v_30.alloc (.cells #[.int .i64 0, .bool false, .bool false] 29) := ⟨_, rfl⟩
        have nb8_0 := F0.out.lt
        rw [← hbb] at nb8_0
        have nb8_1 := F1.out.lt
        rw [← hbb] at nb8_1
        have nb8_2 := F2.out.lt
        rw [← hbb] at nb8_2
        have nb8_3 := F3.out.lt
        rw [← hbb] at nb8_3
        have nb8_5 := F4.out.lt
        rw [← hbb] at nb8_5
        have F5 : Hid (RCmd v_40 b8) := by rw [hw2]; exact RCmd.at_ v_30 _ b8 hbb
        replace F0 : Hid (SW v_40 (w.heap.size + 1) s) := by rw [hw2]; exact F0.out.alloc _
        replace F1 : Hid (JW v_40 (w.heap.size + 2) p) := by rw [hw2]; exact F1.out.alloc _
        replace F2 : Hid (HAt v_40 w.heap.size h) := by rw [hw2]; exact F2.out.alloc _
        replace F3 : Hid (RJ v_40 (w.heap.size + 3)) := by rw [hw2]; exact F3.out.alloc _
        replace FB : Hid (Below w.heap.size w v_40) := by rw [hw2]; exact FB.out.alloc FB.out.size _
        replace F4 : Hid (RCmd v_40 b7) := by rw [hw2]; exact F4.out.alloc _
        rw [← hw2, ← hbb]
        clear hbb hw2
        clear x0_0 x0_1 x0_2 x0_3 x0_4 x0_5 x1_0 x1_1 x1_2 x1_3 x1_4 x1_5
        obtain ⟨x0_0, x0_1, x0_2, x0_3, x0_4, x0_5, y0_0, y0_1, y0_2, y0_3, y0_4, y0_5⟩ := F0.out
        obtain ⟨x1_0, x1_1, x1_2, x1_3, x1_4, x1_5, y1_0, y1_1, y1_2, y1_3, y1_4, y1_5⟩ := F1.out
        refine hK.out _ _ (by (try dsimp only); first | exact ⟨x0_0, x0_1, x0_2, x0_3, x0_4, x0_5, x1_0, x1_1, x1_2, x1_3, x1_4, x1_5⟩ | go_keep) (fun hHeld => ?_)
        clear hK K
        try simp only [Act.put, List.getElem_toArray, List.getElem_cons_succ, List.getElem_cons_zero, List.setIfInBounds_toArray, List.set_cons_zero, List.set_cons_succ]
        refine wpAnyH_ready (rs := [4]) (by kernel_rfl) (by simp) ?_
        refine (AllReadyH.cons rfl (fun K hK => ?_) AllReadyH.nil)
        go_simp
        refine (heldBack_any s.lo p.a a' (by rw [HP.out]; exact HA.out) _).mono ?_
        rintro e v_41 ⟨rfl, hb⟩
        replace F0 : Hid (SW v_41 (w.heap.size + 1) s) := F0.out.below hb F0.out.lt
        replace F1 : Hid (JW v_41 (w.heap.size + 2) p) := F1.out.below hb F1.out.lt
        replace F2 : Hid (HAt v_41 w.heap.size h) := F2.out.below hb F2.out.lt
        replace F3 : Hid (RJ v_41 (w.heap.size + 3)) := F3.out.below hb F3.out.lt
        replace FB : Hid (Below w.heap.size w v_41) := FB.out.trans (hb.mono FB.out.size)
        replace F4 : Hid (RCmd v_41 b7) := F4.out.below hb F4.out.lt
        replace F5 : Hid (RCmd v_41 b8) := F5.out.below hb F5.out.lt
        clear hb
        clear x0_0 x0_1 x0_2 x0_3 x0_4 x0_5 x1_0 x1_1 x1_2 x1_3 x1_4 x1_5
        obtain ⟨x0_0, x0_1, x0_2, x0_3, x0_4, x0_5, y0_0, y0_1, y0_2, y0_3, y0_4, y0_5⟩ := F0.out
        obtain ⟨x1_0, x1_1, x1_2, x1_3, x1_4, x1_5, y1_0, y1_1, y1_2, y1_3, y1_4, y1_5⟩ := F1.out
        try dsimp only
        refine hK.out _ _ (by (try dsimp only); first | exact ⟨x0_0, x0_1, x0_2, x0_3, x0_4, x0_5, x1_0, x1_1, x1_2, x1_3, x1_4, x1_5⟩ | go_keep) (fun hHeld => ?_)
        clear hK K
        try simp only [Act.put, List.getElem_toArray, List.getElem_cons_succ, List.getElem_cons_zero, List.setIfInBounds_toArray, List.set_cons_zero, List.set_cons_succ]
        refine wpAnyH_ready (rs := [9]) (by kernel_rfl) (by simp) ?_
        refine (AllReadyH.cons rfl (fun K hK => ?_) AllReadyH.nil)
        go_simp
        refine (heldBack_any s.up p.b b' (by rw [HP.out]; exact HB.out) _).mono ?_
        rintro e v_42 ⟨rfl, hb⟩
        replace F0 : Hid (SW v_42 (w.heap.size + 1) s) := F0.out.below hb F0.out.lt
        replace F1 : Hid (JW v_42 (w.heap.size + 2) p) := F1.out.below hb F1.out.lt
        replace F2 : Hid (HAt v_42 w.heap.size h) := F2.out.below hb F2.out.lt
        replace F3 : Hid (RJ v_42 (w.heap.size + 3)) := F3.out.below hb F3.out.lt
        replace FB : Hid (Below w.heap.size w v_42) := FB.out.trans (hb.mono FB.out.size)
        replace F4 : Hid (RCmd v_42 b7) := F4.out.below hb F4.out.lt
        replace F5 : Hid (RCmd v_42 b8) := F5.out.below hb F5.out.lt
        clear hb
        clear x0_0 x0_1 x0_2 x0_3 x0_4 x0_5 x1_0 x1_1 x1_2 x1_3 x1_4 x1_5
        obtain ⟨x0_0, x0_1, x0_2, x0_3, x0_4, x0_5, y0_0, y0_1, y0_2, y0_3, y0_4, y0_5⟩ := F0.out
        obtain ⟨x1_0, x1_1, x1_2, x1_3, x1_4, x1_5, y1_0, y1_1, y1_2, y1_3, y1_4, y1_5⟩ := F1.out
        try dsimp only
        refine hK.out _ _ (by (try dsimp only); first | exact ⟨x0_0, x0_1, x0_2, x0_3, x0_4, x0_5, x1_0, x1_1, x1_2, x1_3, x1_4, x1_5⟩ | go_keep) (fun hHeld => ?_)
        clear hK K
        try simp only [Act.put, List.getElem_toArray, List.getElem_cons_succ, List.getElem_cons_zero, List.setIfInBounds_toArray, List.set_cons_zero, List.set_cons_succ]
        refine wpAnyH_ready (rs := [12]) (by kernel_rfl) (by simp) ?_
        refine (AllReadyH.cons rfl (fun K hK => ?_) AllReadyH.nil)
        obtain ⟨x4_0, x4_1, x4_2, y4_0, y4_1, y4_2⟩ := F4.out
        go_simp
        obtain ⟨v_43, hw2⟩ : ∃ v_43, v_43 = putCmd v_42 b7 a' := ⟨_, rfl⟩
        change K _ (putCmd v_42 b7 a')
        rw [← hw2]
        clear x4_0 x4_1 x4_2 y4_0 y4_1 y4_2
        replace F0 : Hid (SW v_43 (w.heap.size + 1) s) := by rw [hw2]; exact F0.out.below (below_putCmd (Below.refl _ _) (Nat.le_refl _) a') (by omega)
        replace F1 : Hid (JW v_43 (w.heap.size + 2) p) := by rw [hw2]; exact F1.out.below (below_putCmd (Below.refl _ _) (Nat.le_refl _) a') (by omega)
        replace F2 : Hid (HAt v_43 w.heap.size h) := by rw [hw2]; exact F2.out.below (below_putCmd (Below.refl _ _) (Nat.le_refl _) a') (by omega)
        replace F3 : Hid (RJ v_43 (w.heap.size + 3)) := by rw [hw2]; exact F3.out.below (below_putCmd (Below.refl _ _) (Nat.le_refl _) a') (by omega)
        replace FB : Hid (Below w.heap.size w v_43) := by rw [hw2]; exact below_putCmd FB.out (by omega) a'
        replace F4 : Hid (VCmd v_43 b7 a') := by rw [hw2]; exact F4.out.put _
        replace F5 : Hid (RCmd v_43 b8) := by rw [hw2]; exact ((F5.out.other (by omega)).other (by omega)).other (by omega)
        clear hw2
        clear x0_0 x0_1 x0_2 x0_3 x0_4 x0_5 x1_0 x1_1 x1_2 x1_3 x1_4 x1_5
        obtain ⟨x0_0, x0_1, x0_2, x0_3, x0_4, x0_5, y0_0, y0_1, y0_2, y0_3, y0_4, y0_5⟩ := F0.out
        obtain ⟨x1_0, x1_1, x1_2, x1_3, x1_4, x1_5, y1_0, y1_1, y1_2, y1_3, y1_4, y1_5⟩ := F1.out
        refine hK.out _ _ (by (try dsimp only); first | exact ⟨x0_0, x0_1, x0_2, x0_3, x0_4, x0_5, x1_0, x1_1, x1_2, x1_3, x1_4, x1_5⟩ | go_keep) (fun hHeld => ?_)
        clear hK K
        try simp only [Act.put, List.getElem_toArray, List.getElem_cons_succ, List.getElem_cons_zero, List.setIfInBounds_toArray, List.set_cons_zero, List.set_cons_succ]
        refine wpAnyH_ready (rs := [13]) (by kernel_rfl) (by simp) ?_
        refine (AllReadyH.cons rfl (fun K hK => ?_) AllReadyH.nil)
        obtain ⟨x5_0, x5_1, x5_2, y5_0, y5_1, y5_2⟩ := F5.out
        go_simp
        obtain ⟨v_44, hw2⟩ : ∃ v_44, v_44 = putCmd v_43 b8 b' := ⟨_, rfl⟩
        change K _ (putCmd v_43 b8 b')
        rw [← hw2]
        clear x5_0 x5_1 x5_2 y5_0 y5_1 y5_2
        replace F0 : Hid (SW v_44 (w.heap.size + 1) s) := by rw [hw2]; exact F0.out.below (below_putCmd (Below.refl _ _) (Nat.le_refl _) b') (by omega)
        replace F1 : Hid (JW v_44 (w.heap.size + 2) p) := by rw [hw2]; exact F1.out.below (below_putCmd (Below.refl _ _) (Nat.le_refl _) b') (by omega)
        replace F2 : Hid (HAt v_44 w.heap.size h) := by rw [hw2]; exact F2.out.below (below_putCmd (Below.refl _ _) (Nat.le_refl _) b') (by omega)
        replace F3 : Hid (RJ v_44 (w.heap.size + 3)) := by rw [hw2]; exact F3.out.below (below_putCmd (Below.refl _ _) (Nat.le_refl _) b') (by omega)
        replace FB : Hid (Below w.heap.size w v_44) := by rw [hw2]; exact below_putCmd FB.out (by omega) b'
        replace F4 : Hid (VCmd v_44 b7 a') := by rw [hw2]; exact ((F4.out.other (by omega)).other (by omega)).other (by omega)
        replace F5 : Hid (VCmd v_44 b8 b') := by rw [hw2]; exact F5.out.put _
        clear hw2
        clear x0_0 x0_1 x0_2 x0_3 x0_4 x0_5 x1_0 x1_1 x1_2 x1_3 x1_4 x1_5
        obtain ⟨x0_0, x0_1, x0_2, x0_3, x0_4, x0_5, y0_0, y0_1, y0_2, y0_3, y0_4, y0_5⟩ := F0.out
        obtain ⟨x1_0, x1_1, x1_2, x1_3, x1_4, x1_5, y1_0, y1_1, y1_2, y1_3, y1_4, y1_5⟩ := F1.out
        refine hK.out _ _ (by (try dsimp only); first | exact ⟨x0_0, x0_1, x0_2, x0_3, x0_4, x0_5, x1_0, x1_1, x1_2, x1_3, x1_4, x1_5⟩ | go_keep) (fun hHeld => ?_)
        clear hK K
        try simp only [Act.put, List.getElem_toArray, List.getElem_cons_succ, List.getElem_cons_zero, List.setIfInBounds_toArray, List.set_cons_zero, List.set_cons_succ]
        refine wpAnyH_done (by kernel_rfl) ?_ _
        go_wp2_with fail
        go_meet
        case rel => exact ⟨b7, b8, rfl, rfl, by omega, by omega, by omega, F2.out, F0.out, F1.out, F3.out, F4.out, F5.out, FB.out⟩
    · go_simp
      obtain ⟨b8, hbb⟩ : ∃ b8, b8 = v_1.heap.size := ⟨_, rfl⟩
      obtain ⟨v_45, hw2⟩ : ∃ v_45, v_45 = v_1.alloc (.cells #[.int .i64 0, .bool false, .bool false] 29) := ⟨_, rfl⟩
      have nb8_0 := F0.out.lt
      rw [← hbb] at nb8_0
      have nb8_1 := F1.out.lt
      rw [← hbb] at nb8_1
      have nb8_2 := F2.out.lt
      rw [← hbb] at nb8_2
      have nb8_3 := F3.out.lt
      rw [← hbb] at nb8_3
      have F5 : Hid (RCmd v_45 b8) := by rw [hw2]; exact RCmd.at_ v_1 _ b8 hbb
      replace F0 : Hid (SW v_45 (w.heap.size + 1) s) := by rw [hw2]; exact F0.out.alloc _
      replace F1 : Hid (JW v_45 (w.heap.size + 2) p) := by rw [hw2]; exact F1.out.alloc _
      replace F2 : Hid (HAt v_45 w.heap.size h) := by rw [hw2]; exact F2.out.alloc _
      replace F3 : Hid (RJ v_45 (w.heap.size + 3)) := by rw [hw2]; exact F3.out.alloc _
      replace FB : Hid (Below w.heap.size w v_45) := by rw [hw2]; exact FB.out.alloc FB.out.size _
      rw [← hw2, ← hbb]
      clear hbb hw2
      clear x0_0 x0_1 x0_2 x0_3 x0_4 x0_5 x1_0 x1_1 x1_2 x1_3 x1_4 x1_5
      obtain ⟨x0_0, x0_1, x0_2, x0_3, x0_4, x0_5, y0_0, y0_1, y0_2, y0_3, y0_4, y0_5⟩ := F0.out
      obtain ⟨x1_0, x1_1, x1_2, x1_3, x1_4, x1_5, y1_0, y1_1, y1_2, y1_3, y1_4, y1_5⟩ := F1.out
      refine hK.out _ _ (by (try dsimp only); first | exact ⟨x0_0, x0_1, x0_2, x0_3, x0_4, x0_5, x1_0, x1_1, x1_2, x1_3, x1_4, x1_5⟩ | go_keep) (fun hHeld => ?_)
      clear hK K
      try simp only [Act.put, List.getElem_toArray, List.getElem_cons_succ, List.getElem_cons_zero, List.setIfInBounds_toArray, List.set_cons_zero, List.set_cons_succ]
      refine wpAnyH_ready (rs := [4, 10]) (by kernel_rfl) (by simp) ?_
      refine (AllReadyH.cons rfl (fun K hK => ?_) (AllReadyH.cons rfl (fun K hK => ?_) AllReadyH.nil))
      · go_simp
        refine (heldBack_any s.lo p.a a' (by rw [HP.out]; exact HA.out) _).mono ?_
        rintro e v_46 ⟨rfl, hb⟩
        replace F0 : Hid (SW v_46 (w.heap.size + 1) s) := F0.out.below hb F0.out.lt
        replace F1 : Hid (JW v_46 (w.heap.size + 2) p) := F1.out.below hb F1.out.lt
        replace F2 : Hid (HAt v_46 w.heap.size h) := F2.out.below hb F2.out.lt
        replace F3 : Hid (RJ v_46 (w.heap.size + 3)) := F3.out.below hb F3.out.lt
        replace FB : Hid (Below w.heap.size w v_46) := FB.out.trans (hb.mono FB.out.size)
        replace F5 : Hid (RCmd v_46 b8) := F5.out.below hb F5.out.lt
        clear hb
        clear x0_0 x0_1 x0_2 x0_3 x0_4 x0_5 x1_0 x1_1 x1_2 x1_3 x1_4 x1_5
        obtain ⟨x0_0, x0_1, x0_2, x0_3, x0_4, x0_5, y0_0, y0_1, y0_2, y0_3, y0_4, y0_5⟩ := F0.out
        obtain ⟨x1_0, x1_1, x1_2, x1_3, x1_4, x1_5, y1_0, y1_1, y1_2, y1_3, y1_4, y1_5⟩ := F1.out
        try dsimp only
        refine hK.out _ _ (by (try dsimp only); first | exact ⟨x0_0, x0_1, x0_2, x0_3, x0_4, x0_5, x1_0, x1_1, x1_2, x1_3, x1_4, x1_5⟩ | go_keep) (fun hHeld => ?_)
        clear hK K
        try simp only [Act.put, List.getElem_toArray, List.getElem_cons_succ, List.getElem_cons_zero, List.setIfInBounds_toArray, List.set_cons_zero, List.set_cons_succ]
        refine wpAnyH_ready (rs := [9, 10]) (by kernel_rfl) (by simp) ?_
        refine (AllReadyH.cons rfl (fun K hK => ?_) (AllReadyH.cons rfl (fun K hK => ?_) AllReadyH.nil))
        · go_simp
          refine (heldBack_any s.up p.b b' (by rw [HP.out]; exact HB.out) _).mono ?_
          rintro e v_47 ⟨rfl, hb⟩
          replace F0 : Hid (SW v_47 (w.heap.size + 1) s) := F0.out.below hb F0.out.lt
          replace F1 : Hid (JW v_47 (w.heap.size + 2) p) := F1.out.below hb F1.out.lt
          replace F2 : Hid (HAt v_47 w.heap.size h) := F2.out.below hb F2.out.lt
          replace F3 : Hid (RJ v_47 (w.heap.size + 3)) := F3.out.below hb F3.out.lt
          replace FB : Hid (Below w.heap.size w v_47) := FB.out.trans (hb.mono FB.out.size)
          replace F5 : Hid (RCmd v_47 b8) := F5.out.below hb F5.out.lt
          clear hb
          clear x0_0 x0_1 x0_2 x0_3 x0_4 x0_5 x1_0 x1_1 x1_2 x1_3 x1_4 x1_5
          obtain ⟨x0_0, x0_1, x0_2, x0_3, x0_4, x0_5, y0_0, y0_1, y0_2, y0_3, y0_4, y0_5⟩ := F0.out
          obtain ⟨x1_0, x1_1, x1_2, x1_3, x1_4, x1_5, y1_0, y1_1, y1_2, y1_3, y1_4, y1_5⟩ := F1.out
          try dsimp only
          refine hK.out _ _ (by (try dsimp only); first | exact ⟨x0_0, x0_1, x0_2, x0_3, x0_4, x0_5, x1_0, x1_1, x1_2, x1_3, x1_4, x1_5⟩ | go_keep) (fun hHeld => ?_)
          clear hK K
          try simp only [Act.put, List.getElem_toArray, List.getElem_cons_succ, List.getElem_cons_zero, List.setIfInBounds_toArray, List.set_cons_zero, List.set_cons_succ]
          refine wpAnyH_ready (rs := [10]) (by kernel_rfl) (by simp) ?_
          refine (AllReadyH.cons rfl (fun K hK => ?_) AllReadyH.nil)
          go_simp
          obtain ⟨b7, hbb⟩ : ∃ b7, b7 = v_47.heap.size := ⟨_, rfl⟩
          obtain ⟨v_48, hw2⟩ : ∃ v_48, v_48 = v_47.alloc (.cells #[.int .i64 0, .bool false, .bool false] 29) := ⟨_, rfl⟩
          have nb7_0 := F0.out.lt
          rw [← hbb] at nb7_0
          have nb7_1 := F1.out.lt
          rw [← hbb] at nb7_1
          have nb7_2 := F2.out.lt
          rw [← hbb] at nb7_2
          have nb7_3 := F3.out.lt
          rw [← hbb] at nb7_3
          have nb7_5 := F5.out.lt
          rw [← hbb] at nb7_5
          have F4 : Hid (RCmd v_48 b7) := by rw [hw2]; exact RCmd.at_ v_47 _ b7 hbb
          replace F0 : Hid (SW v_48 (w.heap.size + 1) s) := by rw [hw2]; exact F0.out.alloc _
          replace F1 : Hid (JW v_48 (w.heap.size + 2) p) := by rw [hw2]; exact F1.out.alloc _
          replace F2 : Hid (HAt v_48 w.heap.size h) := by rw [hw2]; exact F2.out.alloc _
          replace F3 : Hid (RJ v_48 (w.heap.size + 3)) := by rw [hw2]; exact F3.out.alloc _
          replace FB : Hid (Below w.heap.size w v_48) := by rw [hw2]; exact FB.out.alloc FB.out.size _
          replace F5 : Hid (RCmd v_48 b8) := by rw [hw2]; exact F5.out.alloc _
          rw [← hw2, ← hbb]
          clear hbb hw2
          clear x0_0 x0_1 x0_2 x0_3 x0_4 x0_5 x1_0 x1_1 x1_2 x1_3 x1_4 x1_5
          obtain ⟨x0_0, x0_1, x0_2, x0_3, x0_4, x0_5, y0_0, y0_1, y0_2, y0_3, y0_4, y0_5⟩ := F0.out
          obtain ⟨x1_0, x1_1, x1_2, x1_3, x1_4, x1_5, y1_0, y1_1, y1_2, y1_3, y1_4, y1_5⟩ := F1.out
          refine hK.out _ _ (by (try dsimp only); first | exact ⟨x0_0, x0_1, x0_2, x0_3, x0_4, x0_5, x1_0, x1_1, x1_2, x1_3, x1_4, x1_5⟩ | go_keep) (fun hHeld => ?_)
          clear hK K
          try simp only [Act.put, List.getElem_toArray, List.getElem_cons_succ, List.getElem_cons_zero, List.setIfInBounds_toArray, List.set_cons_zero, List.set_cons_succ]
          refine wpAnyH_ready (rs := [12]) (by kernel_rfl) (by simp) ?_
          refine (AllReadyH.cons rfl (fun K hK => ?_) AllReadyH.nil)
          obtain ⟨x4_0, x4_1, x4_2, y4_0, y4_1, y4_2⟩ := F4.out
          go_simp
          obtain ⟨v_49, hw2⟩ : ∃ v_49, v_49 = putCmd v_48 b7 a' := ⟨_, rfl⟩
          change K _ (putCmd v_48 b7 a')
          rw [← hw2]
          clear x4_0 x4_1 x4_2 y4_0 y4_1 y4_2
          replace F0 : Hid (SW v_49 (w.heap.size + 1) s) := by rw [hw2]; exact F0.out.below (below_putCmd (Below.refl _ _) (Nat.le_refl _) a') (by omega)
          replace F1 : Hid (JW v_49 (w.heap.size + 2) p) := by rw [hw2]; exact F1.out.below (below_putCmd (Below.refl _ _) (Nat.le_refl _) a') (by omega)
          replace F2 : Hid (HAt v_49 w.heap.size h) := by rw [hw2]; exact F2.out.below (below_putCmd (Below.refl _ _) (Nat.le_refl _) a') (by omega)
          replace F3 : Hid (RJ v_49 (w.heap.size + 3)) := by rw [hw2]; exact F3.out.below (below_putCmd (Below.refl _ _) (Nat.le_refl _) a') (by omega)
          replace FB : Hid (Below w.heap.size w v_49) := by rw [hw2]; exact below_putCmd FB.out (by omega) a'
          replace F5 : Hid (RCmd v_49 b8) := by rw [hw2]; exact ((F5.out.other (by omega)).other (by omega)).other (by omega)
          replace F4 : Hid (VCmd v_49 b7 a') := by rw [hw2]; exact F4.out.put _
          clear hw2
          clear x0_0 x0_1 x0_2 x0_3 x0_4 x0_5 x1_0 x1_1 x1_2 x1_3 x1_4 x1_5
          obtain ⟨x0_0, x0_1, x0_2, x0_3, x0_4, x0_5, y0_0, y0_1, y0_2, y0_3, y0_4, y0_5⟩ := F0.out
          obtain ⟨x1_0, x1_1, x1_2, x1_3, x1_4, x1_5, y1_0, y1_1, y1_2, y1_3, y1_4, y1_5⟩ := F1.out
          refine hK.out _ _ (by (try dsimp only); first | exact ⟨x0_0, x0_1, x0_2, x0_3, x0_4, x0_5, x1_0, x1_1, x1_2, x1_3, x1_4, x1_5⟩ | go_keep) (fun hHeld => ?_)
          clear hK K
          try simp only [Act.put, List.getElem_toArray, List.getElem_cons_succ, List.getElem_cons_zero, List.setIfInBounds_toArray, List.set_cons_zero, List.set_cons_succ]
          refine wpAnyH_ready (rs := [13]) (by kernel_rfl) (by simp) ?_
          refine (AllReadyH.cons rfl (fun K hK => ?_) AllReadyH.nil)
          obtain ⟨x5_0, x5_1, x5_2, y5_0, y5_1, y5_2⟩ := F5.out
          go_simp
          obtain ⟨v_50, hw2⟩ : ∃ v_50, v_50 = putCmd v_49 b8 b' := ⟨_, rfl⟩
          change K _ (putCmd v_49 b8 b')
          rw [← hw2]
          clear x5_0 x5_1 x5_2 y5_0 y5_1 y5_2
          replace F0 : Hid (SW v_50 (w.heap.size + 1) s) := by rw [hw2]; exact F0.out.below (below_putCmd (Below.refl _ _) (Nat.le_refl _) b') (by omega)
          replace F1 : Hid (JW v_50 (w.heap.size + 2) p) := by rw [hw2]; exact F1.out.below (below_putCmd (Below.refl _ _) (Nat.le_refl _) b') (by omega)
          replace F2 : Hid (HAt v_50 w.heap.size h) := by rw [hw2]; exact F2.out.below (below_putCmd (Below.refl _ _) (Nat.le_refl _) b') (by omega)
          replace F3 : Hid (RJ v_50 (w.heap.size + 3)) := by rw [hw2]; exact F3.out.below (below_putCmd (Below.refl _ _) (Nat.le_refl _) b') (by omega)
          replace FB : Hid (Below w.heap.size w v_50) := by rw [hw2]; exact below_putCmd FB.out (by omega) b'
          replace F5 : Hid (VCmd v_50 b8 b') := by rw [hw2]; exact F5.out.put _
          replace F4 : Hid (VCmd v_50 b7 a') := by rw [hw2]; exact ((F4.out.other (by omega)).other (by omega)).other (by omega)
          clear hw2
          clear x0_0 x0_1 x0_2 x0_3 x0_4 x0_5 x1_0 x1_1 x1_2 x1_3 x1_4 x1_5
          obtain ⟨x0_0, x0_1, x0_2, x0_3, x0_4, x0_5, y0_0, y0_1, y0_2, y0_3, y0_4, y0_5⟩ := F0.out
          obtain ⟨x1_0, x1_1, x1_2, x1_3, x1_4, x1_5, y1_0, y1_1, y1_2, y1_3, y1_4, y1_5⟩ := F1.out
          refine hK.out _ _ (by (try dsimp only); first | exact ⟨x0_0, x0_1, x0_2, x0_3, x0_4, x0_5, x1_0, x1_1, x1_2, x1_3, x1_4, x1_5⟩ | go_keep) (fun hHeld => ?_)
          clear hK K
          try simp only [Act.put, List.getElem_toArray, List.getElem_cons_succ, List.getElem_cons_zero, List.setIfInBounds_toArray, List.set_cons_zero, List.set_cons_succ]
          refine wpAnyH_done (by kernel_rfl) ?_ _
          go_wp2_with fail
          go_meet
          case rel => exact ⟨b7, b8, rfl, rfl, by omega, by omega, by omega, F2.out, F0.out, F1.out, F3.out, F4.out, F5.out, FB.out⟩
        · go_simp
          obtain ⟨b7, hbb⟩ : ∃ b7, b7 = v_46.heap.size := ⟨_, rfl⟩
          obtain ⟨v_51, hw2⟩ : ∃ v_51, v_51 = v_46.alloc (.cells #[.int .i64 0, .bool false, .bool false] 29) := ⟨_, rfl⟩
          have nb7_0 := F0.out.lt
          rw [← hbb] at nb7_0
          have nb7_1 := F1.out.lt
          rw [← hbb] at nb7_1
          have nb7_2 := F2.out.lt
          rw [← hbb] at nb7_2
          have nb7_3 := F3.out.lt
          rw [← hbb] at nb7_3
          have nb7_5 := F5.out.lt
          rw [← hbb] at nb7_5
          have F4 : Hid (RCmd v_51 b7) := by rw [hw2]; exact RCmd.at_ v_46 _ b7 hbb
          replace F0 : Hid (SW v_51 (w.heap.size + 1) s) := by rw [hw2]; exact F0.out.alloc _
          replace F1 : Hid (JW v_51 (w.heap.size + 2) p) := by rw [hw2]; exact F1.out.alloc _
          replace F2 : Hid (HAt v_51 w.heap.size h) := by rw [hw2]; exact F2.out.alloc _
          replace F3 : Hid (RJ v_51 (w.heap.size + 3)) := by rw [hw2]; exact F3.out.alloc _
          replace FB : Hid (Below w.heap.size w v_51) := by rw [hw2]; exact FB.out.alloc FB.out.size _
          replace F5 : Hid (RCmd v_51 b8) := by rw [hw2]; exact F5.out.alloc _
          rw [← hw2, ← hbb]
          clear hbb hw2
          clear x0_0 x0_1 x0_2 x0_3 x0_4 x0_5 x1_0 x1_1 x1_2 x1_3 x1_4 x1_5
          obtain ⟨x0_0, x0_1, x0_2, x0_3, x0_4, x0_5, y0_0, y0_1, y0_2, y0_3, y0_4, y0_5⟩ := F0.out
          obtain ⟨x1_0, x1_1, x1_2, x1_3, x1_4, x1_5, y1_0, y1_1, y1_2, y1_3, y1_4, y1_5⟩ := F1.out
          refine hK.out _ _ (by (try dsimp only); first | exact ⟨x0_0, x0_1, x0_2, x0_3, x0_4, x0_5, x1_0, x1_1, x1_2, x1_3, x1_4, x1_5⟩ | go_keep) (fun hHeld => ?_)
          clear hK K
          try simp only [Act.put, List.getElem_toArray, List.getElem_cons_succ, List.getElem_cons_zero, List.setIfInBounds_toArray, List.set_cons_zero, List.set_cons_succ]
          refine wpAnyH_ready (rs := [9]) (by kernel_rfl) (by simp) ?_
          refine (AllReadyH.cons rfl (fun K hK => ?_) AllReadyH.nil)
          go_simp
          refine (heldBack_any s.up p.b b' (by rw [HP.out]; exact HB.out) _).mono ?_
          rintro e v_52 ⟨rfl, hb⟩
          replace F0 : Hid (SW v_52 (w.heap.size + 1) s) := F0.out.below hb F0.out.lt
          replace F1 : Hid (JW v_52 (w.heap.size + 2) p) := F1.out.below hb F1.out.lt
          replace F2 : Hid (HAt v_52 w.heap.size h) := F2.out.below hb F2.out.lt
          replace F3 : Hid (RJ v_52 (w.heap.size + 3)) := F3.out.below hb F3.out.lt
          replace FB : Hid (Below w.heap.size w v_52) := FB.out.trans (hb.mono FB.out.size)
          replace F5 : Hid (RCmd v_52 b8) := F5.out.below hb F5.out.lt
          replace F4 : Hid (RCmd v_52 b7) := F4.out.below hb F4.out.lt
          clear hb
          clear x0_0 x0_1 x0_2 x0_3 x0_4 x0_5 x1_0 x1_1 x1_2 x1_3 x1_4 x1_5
          obtain ⟨x0_0, x0_1, x0_2, x0_3, x0_4, x0_5, y0_0, y0_1, y0_2, y0_3, y0_4, y0_5⟩ := F0.out
          obtain ⟨x1_0, x1_1, x1_2, x1_3, x1_4, x1_5, y1_0, y1_1, y1_2, y1_3, y1_4, y1_5⟩ := F1.out
          try dsimp only
          refine hK.out _ _ (by (try dsimp only); first | exact ⟨x0_0, x0_1, x0_2, x0_3, x0_4, x0_5, x1_0, x1_1, x1_2, x1_3, x1_4, x1_5⟩ | go_keep) (fun hHeld => ?_)
          clear hK K
          try simp only [Act.put, List.getElem_toArray, List.getElem_cons_succ, List.getElem_cons_zero, List.setIfInBounds_toArray, List.set_cons_zero, List.set_cons_succ]
          refine wpAnyH_ready (rs := [12]) (by kernel_rfl) (by simp) ?_
          refine (AllReadyH.cons rfl (fun K hK => ?_) AllReadyH.nil)
          obtain ⟨x4_0, x4_1, x4_2, y4_0, y4_1, y4_2⟩ := F4.out
          go_simp
          obtain ⟨v_53, hw2⟩ : ∃ v_53, v_53 = putCmd v_52 b7 a' := ⟨_, rfl⟩
          change K _ (putCmd v_52 b7 a')
          rw [← hw2]
          clear x4_0 x4_1 x4_2 y4_0 y4_1 y4_2
          replace F0 : Hid (SW v_53 (w.heap.size + 1) s) := by rw [hw2]; exact F0.out.below (below_putCmd (Below.refl _ _) (Nat.le_refl _) a') (by omega)
          replace F1 : Hid (JW v_53 (w.heap.size + 2) p) := by rw [hw2]; exact F1.out.below (below_putCmd (Below.refl _ _) (Nat.le_refl _) a') (by omega)
          replace F2 : Hid (HAt v_53 w.heap.size h) := by rw [hw2]; exact F2.out.below (below_putCmd (Below.refl _ _) (Nat.le_refl _) a') (by omega)
          replace F3 : Hid (RJ v_53 (w.heap.size + 3)) := by rw [hw2]; exact F3.out.below (below_putCmd (Below.refl _ _) (Nat.le_refl _) a') (by omega)
          replace FB : Hid (Below w.heap.size w v_53) := by rw [hw2]; exact below_putCmd FB.out (by omega) a'
          replace F5 : Hid (RCmd v_53 b8) := by rw [hw2]; exact ((F5.out.other (by omega)).other (by omega)).other (by omega)
          replace F4 : Hid (VCmd v_53 b7 a') := by rw [hw2]; exact F4.out.put _
          clear hw2
          clear x0_0 x0_1 x0_2 x0_3 x0_4 x0_5 x1_0 x1_1 x1_2 x1_3 x1_4 x1_5
          obtain ⟨x0_0, x0_1, x0_2, x0_3, x0_4, x0_5, y0_0, y0_1, y0_2, y0_3, y0_4, y0_5⟩ := F0.out
          obtain ⟨x1_0, x1_1, x1_2, x1_3, x1_4, x1_5, y1_0, y1_1, y1_2, y1_3, y1_4, y1_5⟩ := F1.out
          refine hK.out _ _ (by (try dsimp only); first | exact ⟨x0_0, x0_1, x0_2, x0_3, x0_4, x0_5, x1_0, x1_1, x1_2, x1_3, x1_4, x1_5⟩ | go_keep) (fun hHeld => ?_)
          clear hK K
          try simp only [Act.put, List.getElem_toArray, List.getElem_cons_succ, List.getElem_cons_zero, List.setIfInBounds_toArray, List.set_cons_zero, List.set_cons_succ]
          refine wpAnyH_ready (rs := [13]) (by kernel_rfl) (by simp) ?_
          refine (AllReadyH.cons rfl (fun K hK => ?_) AllReadyH.nil)
          obtain ⟨x5_0, x5_1, x5_2, y5_0, y5_1, y5_2⟩ := F5.out
          go_simp
          obtain ⟨v_54, hw2⟩ : ∃ v_54, v_54 = putCmd v_53 b8 b' := ⟨_, rfl⟩
          change K _ (putCmd v_53 b8 b')
          rw [← hw2]
          clear x5_0 x5_1 x5_2 y5_0 y5_1 y5_2
          replace F0 : Hid (SW v_54 (w.heap.size + 1) s) := by rw [hw2]; exact F0.out.below (below_putCmd (Below.refl _ _) (Nat.le_refl _) b') (by omega)
          replace F1 : Hid (JW v_54 (w.heap.size + 2) p) := by rw [hw2]; exact F1.out.below (below_putCmd (Below.refl _ _) (Nat.le_refl _) b') (by omega)
          replace F2 : Hid (HAt v_54 w.heap.size h) := by rw [hw2]; exact F2.out.below (below_putCmd (Below.refl _ _) (Nat.le_refl _) b') (by omega)
          replace F3 : Hid (RJ v_54 (w.heap.size + 3)) := by rw [hw2]; exact F3.out.below (below_putCmd (Below.refl _ _) (Nat.le_refl _) b') (by omega)
          replace FB : Hid (Below w.heap.size w v_54) := by rw [hw2]; exact below_putCmd FB.out (by omega) b'
          replace F5 : Hid (VCmd v_54 b8 b') := by rw [hw2]; exact F5.out.put _
          replace F4 : Hid (VCmd v_54 b7 a') := by rw [hw2]; exact ((F4.out.other (by omega)).other (by omega)).other (by omega)
          clear hw2
          clear x0_0 x0_1 x0_2 x0_3 x0_4 x0_5 x1_0 x1_1 x1_2 x1_3 x1_4 x1_5
          obtain ⟨x0_0, x0_1, x0_2, x0_3, x0_4, x0_5, y0_0, y0_1, y0_2, y0_3, y0_4, y0_5⟩ := F0.out
          obtain ⟨x1_0, x1_1, x1_2, x1_3, x1_4, x1_5, y1_0, y1_1, y1_2, y1_3, y1_4, y1_5⟩ := F1.out
          refine hK.out _ _ (by (try dsimp only); first | exact ⟨x0_0, x0_1, x0_2, x0_3, x0_4, x0_5, x1_0, x1_1, x1_2, x1_3, x1_4, x1_5⟩ | go_keep) (fun hHeld => ?_)
          clear hK K
          try simp only [Act.put, List.getElem_toArray, List.getElem_cons_succ, List.getElem_cons_zero, List.setIfInBounds_toArray, List.set_cons_zero, List.set_cons_succ]
          refine wpAnyH_done (by kernel_rfl) ?_ _
          go_wp2_with fail
          go_meet
          case rel => exact ⟨b7, b8, rfl, rfl, by omega, by omega, by omega, F2.out, F0.out, F1.out, F3.out, F4.out, F5.out, FB.out⟩
      · go_simp
        obtain ⟨b7, hbb⟩ : ∃ b7, b7 = v_45.heap.size := ⟨_, rfl⟩
        obtain ⟨v_55, hw2⟩ : ∃ v_55, v_55 = v_45.alloc (.cells #[.int .i64 0, .bool false, .bool false] 29) := ⟨_, rfl⟩
        have nb7_0 := F0.out.lt
        rw [← hbb] at nb7_0
        have nb7_1 := F1.out.lt
        rw [← hbb] at nb7_1
        have nb7_2 := F2.out.lt
        rw [← hbb] at nb7_2
        have nb7_3 := F3.out.lt
        rw [← hbb] at nb7_3
        have nb7_5 := F5.out.lt
        rw [← hbb] at nb7_5
        have F4 : Hid (RCmd v_55 b7) := by rw [hw2]; exact RCmd.at_ v_45 _ b7 hbb
        replace F0 : Hid (SW v_55 (w.heap.size + 1) s) := by rw [hw2]; exact F0.out.alloc _
        replace F1 : Hid (JW v_55 (w.heap.size + 2) p) := by rw [hw2]; exact F1.out.alloc _
        replace F2 : Hid (HAt v_55 w.heap.size h) := by rw [hw2]; exact F2.out.alloc _
        replace F3 : Hid (RJ v_55 (w.heap.size + 3)) := by rw [hw2]; exact F3.out.alloc _
        replace FB : Hid (Below w.heap.size w v_55) := by rw [hw2]; exact FB.out.alloc FB.out.size _
        replace F5 : Hid (RCmd v_55 b8) := by rw [hw2]; exact F5.out.alloc _
        rw [← hw2, ← hbb]
        clear hbb hw2
        clear x0_0 x0_1 x0_2 x0_3 x0_4 x0_5 x1_0 x1_1 x1_2 x1_3 x1_4 x1_5
        obtain ⟨x0_0, x0_1, x0_2, x0_3, x0_4, x0_5, y0_0, y0_1, y0_2, y0_3, y0_4, y0_5⟩ := F0.out
        obtain ⟨x1_0, x1_1, x1_2, x1_3, x1_4, x1_5, y1_0, y1_1, y1_2, y1_3, y1_4, y1_5⟩ := F1.out
        refine hK.out _ _ (by (try dsimp only); first | exact ⟨x0_0, x0_1, x0_2, x0_3, x0_4, x0_5, x1_0, x1_1, x1_2, x1_3, x1_4, x1_5⟩ | go_keep) (fun hHeld => ?_)
        clear hK K
        try simp only [Act.put, List.getElem_toArray, List.getElem_cons_succ, List.getElem_cons_zero, List.setIfInBounds_toArray, List.set_cons_zero, List.set_cons_succ]
        refine wpAnyH_ready (rs := [4]) (by kernel_rfl) (by simp) ?_
        refine (AllReadyH.cons rfl (fun K hK => ?_) AllReadyH.nil)
        go_simp
        refine (heldBack_any s.lo p.a a' (by rw [HP.out]; exact HA.out) _).mono ?_
        rintro e v_56 ⟨rfl, hb⟩
        replace F0 : Hid (SW v_56 (w.heap.size + 1) s) := F0.out.below hb F0.out.lt
        replace F1 : Hid (JW v_56 (w.heap.size + 2) p) := F1.out.below hb F1.out.lt
        replace F2 : Hid (HAt v_56 w.heap.size h) := F2.out.below hb F2.out.lt
        replace F3 : Hid (RJ v_56 (w.heap.size + 3)) := F3.out.below hb F3.out.lt
        replace FB : Hid (Below w.heap.size w v_56) := FB.out.trans (hb.mono FB.out.size)
        replace F5 : Hid (RCmd v_56 b8) := F5.out.below hb F5.out.lt
        replace F4 : Hid (RCmd v_56 b7) := F4.out.below hb F4.out.lt
        clear hb
        clear x0_0 x0_1 x0_2 x0_3 x0_4 x0_5 x1_0 x1_1 x1_2 x1_3 x1_4 x1_5
        obtain ⟨x0_0, x0_1, x0_2, x0_3, x0_4, x0_5, y0_0, y0_1, y0_2, y0_3, y0_4, y0_5⟩ := F0.out
        obtain ⟨x1_0, x1_1, x1_2, x1_3, x1_4, x1_5, y1_0, y1_1, y1_2, y1_3, y1_4, y1_5⟩ := F1.out
        try dsimp only
        refine hK.out _ _ (by (try dsimp only); first | exact ⟨x0_0, x0_1, x0_2, x0_3, x0_4, x0_5, x1_0, x1_1, x1_2, x1_3, x1_4, x1_5⟩ | go_keep) (fun hHeld => ?_)
        clear hK K
        try simp only [Act.put, List.getElem_toArray, List.getElem_cons_succ, List.getElem_cons_zero, List.setIfInBounds_toArray, List.set_cons_zero, List.set_cons_succ]
        refine wpAnyH_ready (rs := [9]) (by kernel_rfl) (by simp) ?_
        refine (AllReadyH.cons rfl (fun K hK => ?_) AllReadyH.nil)
        go_simp
        refine (heldBack_any s.up p.b b' (by rw [HP.out]; exact HB.out) _).mono ?_
        rintro e v_57 ⟨rfl, hb⟩
        replace F0 : Hid (SW v_57 (w.heap.size + 1) s) := F0.out.below hb F0.out.lt
        replace F1 : Hid (JW v_57 (w.heap.size + 2) p) := F1.out.below hb F1.out.lt
        replace F2 : Hid (HAt v_57 w.heap.size h) := F2.out.below hb F2.out.lt
        replace F3 : Hid (RJ v_57 (w.heap.size + 3)) := F3.out.below hb F3.out.lt
        replace FB : Hid (Below w.heap.size w v_57) := FB.out.trans (hb.mono FB.out.size)
        replace F5 : Hid (RCmd v_57 b8) := F5.out.below hb F5.out.lt
        replace F4 : Hid (RCmd v_57 b7) := F4.out.below hb F4.out.lt
        clear hb
        clear x0_0 x0_1 x0_2 x0_3 x0_4 x0_5 x1_0 x1_1 x1_2 x1_3 x1_4 x1_5
        obtain ⟨x0_0, x0_1, x0_2, x0_3, x0_4, x0_5, y0_0, y0_1, y0_2, y0_3, y0_4, y0_5⟩ := F0.out
        obtain ⟨x1_0, x1_1, x1_2, x1_3, x1_4, x1_5, y1_0, y1_1, y1_2, y1_3, y1_4, y1_5⟩ := F1.out
        try dsimp only
        refine hK.out _ _ (by (try dsimp only); first | exact ⟨x0_0, x0_1, x0_2, x0_3, x0_4, x0_5, x1_0, x1_1, x1_2, x1_3, x1_4, x1_5⟩ | go_keep) (fun hHeld => ?_)
        clear hK K
        try simp only [Act.put, List.getElem_toArray, List.getElem_cons_succ, List.getElem_cons_zero, List.setIfInBounds_toArray, List.set_cons_zero, List.set_cons_succ]
        refine wpAnyH_ready (rs := [12]) (by kernel_rfl) (by simp) ?_
        refine (AllReadyH.cons rfl (fun K hK => ?_) AllReadyH.nil)
        obtain ⟨x4_0, x4_1, x4_2, y4_0, y4_1, y4_2⟩ := F4.out
        go_simp
        obtain ⟨v_58, hw2⟩ : ∃ v_58, v_58 = putCmd v_57 b7 a' := ⟨_, rfl⟩
        change K _ (putCmd v_57 b7 a')
        rw [← hw2]
        clear x4_0 x4_1 x4_2 y4_0 y4_1 y4_2
        replace F0 : Hid (SW v_58 (w.heap.size + 1) s) := by rw [hw2]; exact F0.out.below (below_putCmd (Below.refl _ _) (Nat.le_refl _) a') (by omega)
        replace F1 : Hid (JW v_58 (w.heap.size + 2) p) := by rw [hw2]; exact F1.out.below (below_putCmd (Below.refl _ _) (Nat.le_refl _) a') (by omega)
        replace F2 : Hid (HAt v_58 w.heap.size h) := by rw [hw2]; exact F2.out.below (below_putCmd (Below.refl _ _) (Nat.le_refl _) a') (by omega)
        replace F3 : Hid (RJ v_58 (w.heap.size + 3)) := by rw [hw2]; exact F3.out.below (below_putCmd (Below.refl _ _) (Nat.le_refl _) a') (by omega)
        replace FB : Hid (Below w.heap.size w v_58) := by rw [hw2]; exact below_putCmd FB.out (by omega) a'
        replace F5 : Hid (RCmd v_58 b8) := by rw [hw2]; exact ((F5.out.other (by omega)).other (by omega)).other (by omega)
        replace F4 : Hid (VCmd v_58 b7 a') := by rw [hw2]; exact F4.out.put _
        clear hw2
        clear x0_0 x0_1 x0_2 x0_3 x0_4 x0_5 x1_0 x1_1 x1_2 x1_3 x1_4 x1_5
        obtain ⟨x0_0, x0_1, x0_2, x0_3, x0_4, x0_5, y0_0, y0_1, y0_2, y0_3, y0_4, y0_5⟩ := F0.out
        obtain ⟨x1_0, x1_1, x1_2, x1_3, x1_4, x1_5, y1_0, y1_1, y1_2, y1_3, y1_4, y1_5⟩ := F1.out
        refine hK.out _ _ (by (try dsimp only); first | exact ⟨x0_0, x0_1, x0_2, x0_3, x0_4, x0_5, x1_0, x1_1, x1_2, x1_3, x1_4, x1_5⟩ | go_keep) (fun hHeld => ?_)
        clear hK K
        try simp only [Act.put, List.getElem_toArray, List.getElem_cons_succ, List.getElem_cons_zero, List.setIfInBounds_toArray, List.set_cons_zero, List.set_cons_succ]
        refine wpAnyH_ready (rs := [13]) (by kernel_rfl) (by simp) ?_
        refine (AllReadyH.cons rfl (fun K hK => ?_) AllReadyH.nil)
        obtain ⟨x5_0, x5_1, x5_2, y5_0, y5_1, y5_2⟩ := F5.out
        go_simp
        obtain ⟨v_59, hw2⟩ : ∃ v_59, v_59 = putCmd v_58 b8 b' := ⟨_, rfl⟩
        change K _ (putCmd v_58 b8 b')
        rw [← hw2]
        clear x5_0 x5_1 x5_2 y5_0 y5_1 y5_2
        replace F0 : Hid (SW v_59 (w.heap.size + 1) s) := by rw [hw2]; exact F0.out.below (below_putCmd (Below.refl _ _) (Nat.le_refl _) b') (by omega)
        replace F1 : Hid (JW v_59 (w.heap.size + 2) p) := by rw [hw2]; exact F1.out.below (below_putCmd (Below.refl _ _) (Nat.le_refl _) b') (by omega)
        replace F2 : Hid (HAt v_59 w.heap.size h) := by rw [hw2]; exact F2.out.below (below_putCmd (Below.refl _ _) (Nat.le_refl _) b') (by omega)
        replace F3 : Hid (RJ v_59 (w.heap.size + 3)) := by rw [hw2]; exact F3.out.below (below_putCmd (Below.refl _ _) (Nat.le_refl _) b') (by omega)
        replace FB : Hid (Below w.heap.size w v_59) := by rw [hw2]; exact below_putCmd FB.out (by omega) b'
        replace F5 : Hid (VCmd v_59 b8 b') := by rw [hw2]; exact F5.out.put _
        replace F4 : Hid (VCmd v_59 b7 a') := by rw [hw2]; exact ((F4.out.other (by omega)).other (by omega)).other (by omega)
        clear hw2
        clear x0_0 x0_1 x0_2 x0_3 x0_4 x0_5 x1_0 x1_1 x1_2 x1_3 x1_4 x1_5
        obtain ⟨x0_0, x0_1, x0_2, x0_3, x0_4, x0_5, y0_0, y0_1, y0_2, y0_3, y0_4, y0_5⟩ := F0.out
        obtain ⟨x1_0, x1_1, x1_2, x1_3, x1_4, x1_5, y1_0, y1_1, y1_2, y1_3, y1_4, y1_5⟩ := F1.out
        refine hK.out _ _ (by (try dsimp only); first | exact ⟨x0_0, x0_1, x0_2, x0_3, x0_4, x0_5, x1_0, x1_1, x1_2, x1_3, x1_4, x1_5⟩ | go_keep) (fun hHeld => ?_)
        clear hK K
        try simp only [Act.put, List.getElem_toArray, List.getElem_cons_succ, List.getElem_cons_zero, List.setIfInBounds_toArray, List.set_cons_zero, List.set_cons_succ]
        refine wpAnyH_done (by kernel_rfl) ?_ _
        go_wp2_with fail
        go_meet
        case rel => exact ⟨b7, b8, rfl, rfl, by omega, by omega, by omega, F2.out, F0.out, F1.out, F3.out, F4.out, F5.out, FB.out⟩
  case rest =>
    obtain ⟨b7, b8, rfl, rfl, lt1, lt2, ne1, h0, h1, h2, h3, h4, h5, h6⟩ := hcut
    rw [HP.out] at h2
    have F0 : Hid (HAt wc w.heap.size h) := h0
    have F1 : Hid (SW wc (w.heap.size + 1) s) := h1
    have F2 : Hid (JW wc (w.heap.size + 2) (⟨a, b⟩ : Pr)) := h2
    have F3 : Hid (RJ wc (w.heap.size + 3)) := h3
    have F4 : Hid (VCmd wc b7 a') := h4
    have F5 : Hid (VCmd wc b8 b') := h5
    have FB : Hid (Below w.heap.size w wc) := h6
    clear h0 h1 h2 h3 h4 h5 h6
    obtain ⟨x0_0, x0_1, x0_2, x0_3, x0_4, x0_5, x0_6, x0_7, x0_8, x0_9, x0_10, x0_11⟩ := F0.out
    obtain ⟨x1_0, x1_1, x1_2, x1_3, x1_4, x1_5, y1_0, y1_1, y1_2, y1_3, y1_4, y1_5⟩ := F1.out
    obtain ⟨x2_0, x2_1, x2_2, x2_3, x2_4, x2_5, y2_0, y2_1, y2_2, y2_3, y2_4, y2_5⟩ := F2.out
    obtain ⟨x3_0, x3_1, x3_2, x3_3, x3_4, x3_5, y3_0, y3_1, y3_2, y3_3, y3_4, y3_5⟩ := F3.out
    obtain ⟨x4_0, x4_1, x4_2⟩ := F4.out
    obtain ⟨x5_0, x5_1, x5_2⟩ := F5.out
    try dsimp only at x2_0 x2_1 x2_2 x2_3 x2_4 x2_5
    go_upto_region 4 with (refine put_all a b a' b' wc _ _ rfl rfl rfl rfl ?_)
    clear x0_0 x0_1 x0_2 x0_3 x0_4 x0_5 x0_6 x0_7 x0_8 x0_9 x0_10 x0_11 x1_0 x1_1 x1_2 x1_3 x1_4 x1_5 y1_0 y1_1 y1_2 y1_3 y1_4 y1_5 x2_0 x2_1 x2_2 x2_3 x2_4 x2_5 y2_0 y2_1 y2_2 y2_3 y2_4 y2_5 x3_0 x3_1 x3_2 x3_3 x3_4 x3_5 y3_0 y3_1 y3_2 y3_3 y3_4 y3_5 x4_0 x4_1 x4_2 x5_0 x5_1 x5_2 F2 F4 F5
    obtain ⟨b9, hbb⟩ : ∃ b9, b9 = wc.heap.size := ⟨_, rfl⟩
    obtain ⟨w5, hw2⟩ : ∃ w5, w5 = wc.alloc (.cells #[.int .i64 a.push, .bool a.brk, .bool a.opn, .int .i64 b.push, .bool b.brk, .bool b.opn, .int .i64 a'.push, .bool a'.brk, .bool a'.opn, .int .i64 b.push, .bool b.brk, .bool b.opn, .int .i64 a.push, .bool a.brk, .bool a.opn, .int .i64 b'.push, .bool b'.brk, .bool b'.opn, .int .i64 a'.push, .bool a'.brk, .bool a'.opn, .int .i64 b'.push, .bool b'.brk, .bool b'.opn] 87) := ⟨_, rfl⟩
    have lb9F0 := F0.out.lt
    rw [← hbb] at lb9F0
    have F0 : Hid (HAt w5 w.heap.size h) := by rw [hw2]; exact F0.out.alloc _
    have lb9F1 := F1.out.lt
    rw [← hbb] at lb9F1
    have F1 : Hid (SW w5 (w.heap.size + 1) s) := by rw [hw2]; exact F1.out.alloc _
    have lb9F3 := F3.out.lt
    rw [← hbb] at lb9F3
    have F3 : Hid (RJ w5 (w.heap.size + 3)) := by rw [hw2]; exact F3.out.alloc _
    have lb9B : w.heap.size ≤ b9 := by rw [hbb]; exact FB.out.size
    have FB : Hid (Below w.heap.size w w5) := by rw [hw2]; exact FB.out.alloc FB.out.size _
    have S8 : Hid (w5.heap[b9]? = some (.cells #[.int .i64 a.push, .bool a.brk, .bool a.opn, .int .i64 b.push, .bool b.brk, .bool b.opn, .int .i64 a'.push, .bool a'.brk, .bool a'.opn, .int .i64 b.push, .bool b.brk, .bool b.opn, .int .i64 a.push, .bool a.brk, .bool a.opn, .int .i64 b'.push, .bool b'.brk, .bool b'.opn, .int .i64 a'.push, .bool a'.brk, .bool a'.opn, .int .i64 b'.push, .bool b'.brk, .bool b'.opn] 87)) := by rw [hw2, hbb]; exact heap_alloc_last wc _
    have S9 : Hid (w5.heap.size = b9 + 1) := by rw [hw2]; exact (show (wc.alloc _).heap.size = b9 + 1 from by rw [hbb]; simp)
    rw [← hw2, ← hbb]
    clear hbb hw2
    obtain ⟨b10, hbb⟩ : ∃ b10, b10 = w5.heap.size := ⟨_, rfl⟩
    obtain ⟨w6, hw2⟩ : ∃ w6, w6 = w5.alloc (.cells #[.int .i64 0, .bool false, .bool false, .int .i64 0, .bool false, .bool false] 66) := ⟨_, rfl⟩
    have lb10F0 := F0.out.lt
    rw [← hbb] at lb10F0
    have F0 : Hid (HAt w6 w.heap.size h) := by rw [hw2]; exact F0.out.alloc _
    have lb10F1 := F1.out.lt
    rw [← hbb] at lb10F1
    have F1 : Hid (SW w6 (w.heap.size + 1) s) := by rw [hw2]; exact F1.out.alloc _
    have lb10F3 := F3.out.lt
    rw [← hbb] at lb10F3
    have F3 : Hid (RJ w6 (w.heap.size + 3)) := by rw [hw2]; exact F3.out.alloc _
    have lb10B : w.heap.size ≤ b10 := by rw [hbb]; exact FB.out.size
    have FB : Hid (Below w.heap.size w w6) := by rw [hw2]; exact FB.out.alloc FB.out.size _
    have F6 : Hid (JW w6 b10 (⟨⟨0, false, false⟩, ⟨0, false, false⟩⟩ : Pr)) := by rw [hw2]; exact (RJ.at_ w5 _ b10 hbb).jw
    have S8 : Hid (w6.heap[b9]? = some (.cells #[.int .i64 a.push, .bool a.brk, .bool a.opn, .int .i64 b.push, .bool b.brk, .bool b.opn, .int .i64 a'.push, .bool a'.brk, .bool a'.opn, .int .i64 b.push, .bool b.brk, .bool b.opn, .int .i64 a.push, .bool a.brk, .bool a.opn, .int .i64 b'.push, .bool b'.brk, .bool b'.opn, .int .i64 a'.push, .bool a'.brk, .bool a'.opn, .int .i64 b'.push, .bool b'.brk, .bool b'.opn] 87)) := by rw [hw2]; exact heap_alloc_old S8.out _
    rw [← hw2, ← hbb.trans S9.out]
    clear hbb hw2 S9
    try go_step3
    go_wp2_with (refine get_all a b a' b' b9 _ rfl rfl rfl S8.out ?_)
    try go_step3
    go_wp2_with fail
    clear S8
    obtain ⟨x0_0, x0_1, x0_2, x0_3, x0_4, x0_5, x0_6, x0_7, x0_8, x0_9, x0_10, x0_11⟩ := F0.out
    obtain ⟨x1_0, x1_1, x1_2, x1_3, x1_4, x1_5, y1_0, y1_1, y1_2, y1_3, y1_4, y1_5⟩ := F1.out
    obtain ⟨x3_0, x3_1, x3_2, x3_3, x3_4, x3_5, y3_0, y3_1, y3_2, y3_3, y3_4, y3_5⟩ := F3.out
    go_loopw [35] (fun nn wr => ∃ (n : Nat) (p : Pr), nn = .int .i64 (n : Int) ∧ (n = 0 ∨ (n = 1 ∧ Hs.may h s a b = false) ∨ (n = 2 ∧ Hs.may h s a b = false ∧ Hs.may h s a' b = false) ∨ (n = 3 ∧ Hs.may h s a b = false ∧ Hs.may h s a' b = false ∧ Hs.may h s a b' = false)) ∧ HAt wr w.heap.size h ∧ SW wr (w.heap.size + 1) s ∧ RJ wr (w.heap.size + 3) ∧ JW wr b10 p ∧ Below w.heap.size w wr) (fun nn _ => (4 - intOf nn).toNat)
    case atStart => exact ⟨0, _, rfl, Or.inl rfl, F0.out, F1.out, F3.out, F6.out, FB.out⟩
    case round =>
      obtain ⟨n, p, rfl, hn, h0, h1, h3, h6, h7⟩ := hrel
      have F0 : Hid (HAt wr w.heap.size h) := h0
      have F1 : Hid (SW wr (w.heap.size + 1) s) := h1
      have F3 : Hid (RJ wr (w.heap.size + 3)) := h3
      have F6 : Hid (JW wr b10 p) := h6
      have FB : Hid (Below w.heap.size w wr) := h7
      clear h0 h1 h3 h6 h7
      obtain ⟨x0_0, x0_1, x0_2, x0_3, x0_4, x0_5, x0_6, x0_7, x0_8, x0_9, x0_10, x0_11⟩ := F0.out
      obtain ⟨x1_0, x1_1, x1_2, x1_3, x1_4, x1_5, y1_0, y1_1, y1_2, y1_3, y1_4, y1_5⟩ := F1.out
      obtain ⟨x3_0, x3_1, x3_2, x3_3, x3_4, x3_5, y3_0, y3_1, y3_2, y3_3, y3_4, y3_5⟩ := F3.out
      rcases hn with rfl | ⟨rfl, c1⟩ | ⟨rfl, c1, c2⟩ | ⟨rfl, c1, c2, c3⟩
      · as_aux_lemma =>
        obtain ⟨x6_0, x6_1, x6_2, x6_3, x6_4, x6_5, y6_0, y6_1, y6_2, y6_3, y6_4, y6_5⟩ := F6.out
        have ix := idx0 a b a' b'
        go_upto_region 7 with fail
        clear ix x6_0 x6_1 x6_2 x6_3 x6_4 x6_5 y6_0 y6_1 y6_2 y6_3 y6_4 y6_5
        obtain ⟨w7, hw7⟩ : ∃ w7, w7 = ((((((wr.setCell ⟨b10, 0, none⟩ (.int .i64 a.push)).setCell ⟨b10, 1, none⟩ (.bool a.brk)).setCell ⟨b10, 2, none⟩ (.bool a.opn)).setCell ⟨b10, 3, none⟩ (.int .i64 b.push)).setCell ⟨b10, 4, none⟩ (.bool b.brk)).setCell ⟨b10, 5, none⟩ (.bool b.opn)) := ⟨_, rfl⟩
        rw [← hw7]
        have F0 : Hid (HAt w7 w.heap.size h) := by rw [hw7]; exact F0.out.below (below_putJ (Below.refl _ _) (Nat.le_refl _) (⟨a, b⟩ : Pr)) (by omega)
        have F1 : Hid (SW w7 (w.heap.size + 1) s) := by rw [hw7]; exact F1.out.below (below_putJ (Below.refl _ _) (Nat.le_refl _) (⟨a, b⟩ : Pr)) (by omega)
        have F3 : Hid (RJ w7 (w.heap.size + 3)) := by rw [hw7]; exact F3.out.putJ (by omega) (⟨a, b⟩ : Pr)
        have F6 : Hid (JW w7 b10 (⟨a, b⟩ : Pr)) := by rw [hw7]; exact F6.out.put (⟨a, b⟩ : Pr)
        have FB : Hid (Below w.heap.size w w7) := by rw [hw7]; exact below_putJ FB.out (by omega) (⟨a, b⟩ : Pr)
        clear hw7
        obtain ⟨x0_0, x0_1, x0_2, x0_3, x0_4, x0_5, x0_6, x0_7, x0_8, x0_9, x0_10, x0_11⟩ := F0.out
        obtain ⟨x1_0, x1_1, x1_2, x1_3, x1_4, x1_5, y1_0, y1_1, y1_2, y1_3, y1_4, y1_5⟩ := F1.out
        obtain ⟨x3_0, x3_1, x3_2, x3_3, x3_4, x3_5, y3_0, y3_1, y3_2, y3_3, y3_4, y3_5⟩ := F3.out
        obtain ⟨x6_0, x6_1, x6_2, x6_3, x6_4, x6_5, y6_0, y6_1, y6_2, y6_3, y6_4, y6_5⟩ := F6.out
        try dsimp only at x6_0 x6_1 x6_2 x6_3 x6_4 x6_5
        cases m : Hs.may h s a b with
        | false =>
          go_wp2_with (go_at_call 69; refine (isSafe_any h s (⟨a, b⟩ : Pr) HL.out HU.out (by assumption) (by assumption) (by assumption) (by assumption) _).mono ?_; try dsimp only; rw [m]; rintro e w8 ⟨rfl, hb⟩; have F0 : Hid (HAt w8 w.heap.size h) := F0.out.below hb F0.out.lt; have F1 : Hid (SW w8 (w.heap.size + 1) s) := F1.out.below hb F1.out.lt; have F3 : Hid (RJ w8 (w.heap.size + 3)) := F3.out.below hb F3.out.lt; have F6 : Hid (JW w8 b10 (⟨a, b⟩ : Pr)) := F6.out.below hb F6.out.lt; have FB : Hid (Below w.heap.size w w8) := FB.out.trans (hb.mono FB.out.size); clear hb; obtain ⟨x0_0, x0_1, x0_2, x0_3, x0_4, x0_5, x0_6, x0_7, x0_8, x0_9, x0_10, x0_11⟩ := F0.out; obtain ⟨x1_0, x1_1, x1_2, x1_3, x1_4, x1_5, y1_0, y1_1, y1_2, y1_3, y1_4, y1_5⟩ := F1.out; obtain ⟨x3_0, x3_1, x3_2, x3_3, x3_4, x3_5, y3_0, y3_1, y3_2, y3_3, y3_4, y3_5⟩ := F3.out; obtain ⟨x6_0, x6_1, x6_2, x6_3, x6_4, x6_5, y6_0, y6_1, y6_2, y6_3, y6_4, y6_5⟩ := F6.out; try dsimp only at x6_0 x6_1 x6_2 x6_3 x6_4 x6_5)
          go_roundw
          case rel => exact ⟨1, (⟨a, b⟩ : Pr), rfl, Or.inr (Or.inl ⟨rfl, m⟩), F0.out, F1.out, F3.out, F6.out, FB.out⟩
          case measure => simp [intOf]
        | true =>
          have e : g = (a, b) := by rw [HE.out, m]; rfl
          subst e
          clear HE
          go_wp2_with (go_at_call 69; refine (isSafe_any h s (⟨a, b⟩ : Pr) HL.out HU.out (by assumption) (by assumption) (by assumption) (by assumption) _).mono ?_; try dsimp only; rw [m]; rintro e w8 ⟨rfl, hb⟩; have F0 : Hid (HAt w8 w.heap.size h) := F0.out.below hb F0.out.lt; have F1 : Hid (SW w8 (w.heap.size + 1) s) := F1.out.below hb F1.out.lt; have F3 : Hid (RJ w8 (w.heap.size + 3)) := F3.out.below hb F3.out.lt; have F6 : Hid (JW w8 b10 (⟨a, b⟩ : Pr)) := F6.out.below hb F6.out.lt; have FB : Hid (Below w.heap.size w w8) := FB.out.trans (hb.mono FB.out.size); clear hb; obtain ⟨x0_0, x0_1, x0_2, x0_3, x0_4, x0_5, x0_6, x0_7, x0_8, x0_9, x0_10, x0_11⟩ := F0.out; obtain ⟨x1_0, x1_1, x1_2, x1_3, x1_4, x1_5, y1_0, y1_1, y1_2, y1_3, y1_4, y1_5⟩ := F1.out; obtain ⟨x3_0, x3_1, x3_2, x3_3, x3_4, x3_5, y3_0, y3_1, y3_2, y3_3, y3_4, y3_5⟩ := F3.out; obtain ⟨x6_0, x6_1, x6_2, x6_3, x6_4, x6_5, y6_0, y6_1, y6_2, y6_3, y6_4, y6_5⟩ := F6.out; try dsimp only at x6_0 x6_1 x6_2 x6_3 x6_4 x6_5)
          rw [Exit.noGoto_ret]
          change bodyPost _ _ _ _ _ (putJ w8 (w.heap.size + 3) (⟨a, b⟩ : Pr))
          obtain ⟨Wf, hWf⟩ : ∃ Wf, putJ w8 (w.heap.size + 3) (⟨a, b⟩ : Pr) = Wf := ⟨_, rfl⟩
          have HRf : JW Wf (w.heap.size + 3) (⟨a, b⟩ : Pr) := hWf ▸ F3.out.put _
          have HBf : Below w.heap.size w Wf := hWf ▸ below_putJ FB.out (by omega) _
          rw [hWf]
          clear hWf
          obtain ⟨d0, d1, d2, d3, d4, d5, -, -, -, -, -, -⟩ := HRf
          try dsimp only at d0 d1 d2 d3 d4 d5
          exact bodyPost_ret (v := .agg #[.int .i64 a.push, .bool a.brk, .bool a.opn, .int .i64 b.push, .bool b.brk, .bool b.opn]) (by simp [results, Try.results38, go_sem, d0, d1, d2, d3, d4, d5]) rfl ⟨rfl, HBf⟩
      · as_aux_lemma =>
        obtain ⟨x6_0, x6_1, x6_2, x6_3, x6_4, x6_5, y6_0, y6_1, y6_2, y6_3, y6_4, y6_5⟩ := F6.out
        have ix := idx1 a b a' b'
        go_upto_region 7 with fail
        clear ix x6_0 x6_1 x6_2 x6_3 x6_4 x6_5 y6_0 y6_1 y6_2 y6_3 y6_4 y6_5
        obtain ⟨w7, hw7⟩ : ∃ w7, w7 = ((((((wr.setCell ⟨b10, 0, none⟩ (.int .i64 a'.push)).setCell ⟨b10, 1, none⟩ (.bool a'.brk)).setCell ⟨b10, 2, none⟩ (.bool a'.opn)).setCell ⟨b10, 3, none⟩ (.int .i64 b.push)).setCell ⟨b10, 4, none⟩ (.bool b.brk)).setCell ⟨b10, 5, none⟩ (.bool b.opn)) := ⟨_, rfl⟩
        rw [← hw7]
        have F0 : Hid (HAt w7 w.heap.size h) := by rw [hw7]; exact F0.out.below (below_putJ (Below.refl _ _) (Nat.le_refl _) (⟨a', b⟩ : Pr)) (by omega)
        have F1 : Hid (SW w7 (w.heap.size + 1) s) := by rw [hw7]; exact F1.out.below (below_putJ (Below.refl _ _) (Nat.le_refl _) (⟨a', b⟩ : Pr)) (by omega)
        have F3 : Hid (RJ w7 (w.heap.size + 3)) := by rw [hw7]; exact F3.out.putJ (by omega) (⟨a', b⟩ : Pr)
        have F6 : Hid (JW w7 b10 (⟨a', b⟩ : Pr)) := by rw [hw7]; exact F6.out.put (⟨a', b⟩ : Pr)
        have FB : Hid (Below w.heap.size w w7) := by rw [hw7]; exact below_putJ FB.out (by omega) (⟨a', b⟩ : Pr)
        clear hw7
        obtain ⟨x0_0, x0_1, x0_2, x0_3, x0_4, x0_5, x0_6, x0_7, x0_8, x0_9, x0_10, x0_11⟩ := F0.out
        obtain ⟨x1_0, x1_1, x1_2, x1_3, x1_4, x1_5, y1_0, y1_1, y1_2, y1_3, y1_4, y1_5⟩ := F1.out
        obtain ⟨x3_0, x3_1, x3_2, x3_3, x3_4, x3_5, y3_0, y3_1, y3_2, y3_3, y3_4, y3_5⟩ := F3.out
        obtain ⟨x6_0, x6_1, x6_2, x6_3, x6_4, x6_5, y6_0, y6_1, y6_2, y6_3, y6_4, y6_5⟩ := F6.out
        try dsimp only at x6_0 x6_1 x6_2 x6_3 x6_4 x6_5
        cases m : Hs.may h s a' b with
        | false =>
          go_wp2_with (go_at_call 69; refine (isSafe_any h s (⟨a', b⟩ : Pr) HL.out HU.out (by assumption) (by assumption) (by assumption) (by assumption) _).mono ?_; try dsimp only; rw [m]; rintro e w8 ⟨rfl, hb⟩; have F0 : Hid (HAt w8 w.heap.size h) := F0.out.below hb F0.out.lt; have F1 : Hid (SW w8 (w.heap.size + 1) s) := F1.out.below hb F1.out.lt; have F3 : Hid (RJ w8 (w.heap.size + 3)) := F3.out.below hb F3.out.lt; have F6 : Hid (JW w8 b10 (⟨a', b⟩ : Pr)) := F6.out.below hb F6.out.lt; have FB : Hid (Below w.heap.size w w8) := FB.out.trans (hb.mono FB.out.size); clear hb; obtain ⟨x0_0, x0_1, x0_2, x0_3, x0_4, x0_5, x0_6, x0_7, x0_8, x0_9, x0_10, x0_11⟩ := F0.out; obtain ⟨x1_0, x1_1, x1_2, x1_3, x1_4, x1_5, y1_0, y1_1, y1_2, y1_3, y1_4, y1_5⟩ := F1.out; obtain ⟨x3_0, x3_1, x3_2, x3_3, x3_4, x3_5, y3_0, y3_1, y3_2, y3_3, y3_4, y3_5⟩ := F3.out; obtain ⟨x6_0, x6_1, x6_2, x6_3, x6_4, x6_5, y6_0, y6_1, y6_2, y6_3, y6_4, y6_5⟩ := F6.out; try dsimp only at x6_0 x6_1 x6_2 x6_3 x6_4 x6_5)
          go_roundw
          case rel => exact ⟨2, (⟨a', b⟩ : Pr), rfl, Or.inr (Or.inr (Or.inl ⟨rfl, c1, m⟩)), F0.out, F1.out, F3.out, F6.out, FB.out⟩
          case measure => simp [intOf]
        | true =>
          have e : g = (a', b) := by rw [HE.out, c1, m]; rfl
          subst e
          clear HE
          go_wp2_with (go_at_call 69; refine (isSafe_any h s (⟨a', b⟩ : Pr) HL.out HU.out (by assumption) (by assumption) (by assumption) (by assumption) _).mono ?_; try dsimp only; rw [m]; rintro e w8 ⟨rfl, hb⟩; have F0 : Hid (HAt w8 w.heap.size h) := F0.out.below hb F0.out.lt; have F1 : Hid (SW w8 (w.heap.size + 1) s) := F1.out.below hb F1.out.lt; have F3 : Hid (RJ w8 (w.heap.size + 3)) := F3.out.below hb F3.out.lt; have F6 : Hid (JW w8 b10 (⟨a', b⟩ : Pr)) := F6.out.below hb F6.out.lt; have FB : Hid (Below w.heap.size w w8) := FB.out.trans (hb.mono FB.out.size); clear hb; obtain ⟨x0_0, x0_1, x0_2, x0_3, x0_4, x0_5, x0_6, x0_7, x0_8, x0_9, x0_10, x0_11⟩ := F0.out; obtain ⟨x1_0, x1_1, x1_2, x1_3, x1_4, x1_5, y1_0, y1_1, y1_2, y1_3, y1_4, y1_5⟩ := F1.out; obtain ⟨x3_0, x3_1, x3_2, x3_3, x3_4, x3_5, y3_0, y3_1, y3_2, y3_3, y3_4, y3_5⟩ := F3.out; obtain ⟨x6_0, x6_1, x6_2, x6_3, x6_4, x6_5, y6_0, y6_1, y6_2, y6_3, y6_4, y6_5⟩ := F6.out; try dsimp only at x6_0 x6_1 x6_2 x6_3 x6_4 x6_5)
          rw [Exit.noGoto_ret]
          change bodyPost _ _ _ _ _ (putJ w8 (w.heap.size + 3) (⟨a', b⟩ : Pr))
          obtain ⟨Wf, hWf⟩ : ∃ Wf, putJ w8 (w.heap.size + 3) (⟨a', b⟩ : Pr) = Wf := ⟨_, rfl⟩
          have HRf : JW Wf (w.heap.size + 3) (⟨a', b⟩ : Pr) := hWf ▸ F3.out.put _
          have HBf : Below w.heap.size w Wf := hWf ▸ below_putJ FB.out (by omega) _
          rw [hWf]
          clear hWf
          obtain ⟨d0, d1, d2, d3, d4, d5, -, -, -, -, -, -⟩ := HRf
          try dsimp only at d0 d1 d2 d3 d4 d5
          exact bodyPost_ret (v := .agg #[.int .i64 a'.push, .bool a'.brk, .bool a'.opn, .int .i64 b.push, .bool b.brk, .bool b.opn]) (by simp [results, Try.results38, go_sem, d0, d1, d2, d3, d4, d5]) rfl ⟨rfl, HBf⟩
      · as_aux_lemma =>
        obtain ⟨x6_0, x6_1, x6_2, x6_3, x6_4, x6_5, y6_0, y6_1, y6_2, y6_3, y6_4, y6_5⟩ := F6.out
        have ix := idx2 a b a' b'
        go_upto_region 7 with fail
        clear ix x6_0 x6_1 x6_2 x6_3 x6_4 x6_5 y6_0 y6_1 y6_2 y6_3 y6_4 y6_5
        obtain ⟨w7, hw7⟩ : ∃ w7, w7 = ((((((wr.setCell ⟨b10, 0, none⟩ (.int .i64 a.push)).setCell ⟨b10, 1, none⟩ (.bool a.brk)).setCell ⟨b10, 2, none⟩ (.bool a.opn)).setCell ⟨b10, 3, none⟩ (.int .i64 b'.push)).setCell ⟨b10, 4, none⟩ (.bool b'.brk)).setCell ⟨b10, 5, none⟩ (.bool b'.opn)) := ⟨_, rfl⟩
        rw [← hw7]
        have F0 : Hid (HAt w7 w.heap.size h) := by rw [hw7]; exact F0.out.below (below_putJ (Below.refl _ _) (Nat.le_refl _) (⟨a, b'⟩ : Pr)) (by omega)
        have F1 : Hid (SW w7 (w.heap.size + 1) s) := by rw [hw7]; exact F1.out.below (below_putJ (Below.refl _ _) (Nat.le_refl _) (⟨a, b'⟩ : Pr)) (by omega)
        have F3 : Hid (RJ w7 (w.heap.size + 3)) := by rw [hw7]; exact F3.out.putJ (by omega) (⟨a, b'⟩ : Pr)
        have F6 : Hid (JW w7 b10 (⟨a, b'⟩ : Pr)) := by rw [hw7]; exact F6.out.put (⟨a, b'⟩ : Pr)
        have FB : Hid (Below w.heap.size w w7) := by rw [hw7]; exact below_putJ FB.out (by omega) (⟨a, b'⟩ : Pr)
        clear hw7
        obtain ⟨x0_0, x0_1, x0_2, x0_3, x0_4, x0_5, x0_6, x0_7, x0_8, x0_9, x0_10, x0_11⟩ := F0.out
        obtain ⟨x1_0, x1_1, x1_2, x1_3, x1_4, x1_5, y1_0, y1_1, y1_2, y1_3, y1_4, y1_5⟩ := F1.out
        obtain ⟨x3_0, x3_1, x3_2, x3_3, x3_4, x3_5, y3_0, y3_1, y3_2, y3_3, y3_4, y3_5⟩ := F3.out
        obtain ⟨x6_0, x6_1, x6_2, x6_3, x6_4, x6_5, y6_0, y6_1, y6_2, y6_3, y6_4, y6_5⟩ := F6.out
        try dsimp only at x6_0 x6_1 x6_2 x6_3 x6_4 x6_5
        cases m : Hs.may h s a b' with
        | false =>
          go_wp2_with (go_at_call 69; refine (isSafe_any h s (⟨a, b'⟩ : Pr) HL.out HU.out (by assumption) (by assumption) (by assumption) (by assumption) _).mono ?_; try dsimp only; rw [m]; rintro e w8 ⟨rfl, hb⟩; have F0 : Hid (HAt w8 w.heap.size h) := F0.out.below hb F0.out.lt; have F1 : Hid (SW w8 (w.heap.size + 1) s) := F1.out.below hb F1.out.lt; have F3 : Hid (RJ w8 (w.heap.size + 3)) := F3.out.below hb F3.out.lt; have F6 : Hid (JW w8 b10 (⟨a, b'⟩ : Pr)) := F6.out.below hb F6.out.lt; have FB : Hid (Below w.heap.size w w8) := FB.out.trans (hb.mono FB.out.size); clear hb; obtain ⟨x0_0, x0_1, x0_2, x0_3, x0_4, x0_5, x0_6, x0_7, x0_8, x0_9, x0_10, x0_11⟩ := F0.out; obtain ⟨x1_0, x1_1, x1_2, x1_3, x1_4, x1_5, y1_0, y1_1, y1_2, y1_3, y1_4, y1_5⟩ := F1.out; obtain ⟨x3_0, x3_1, x3_2, x3_3, x3_4, x3_5, y3_0, y3_1, y3_2, y3_3, y3_4, y3_5⟩ := F3.out; obtain ⟨x6_0, x6_1, x6_2, x6_3, x6_4, x6_5, y6_0, y6_1, y6_2, y6_3, y6_4, y6_5⟩ := F6.out; try dsimp only at x6_0 x6_1 x6_2 x6_3 x6_4 x6_5)
          go_roundw
          case rel => exact ⟨3, (⟨a, b'⟩ : Pr), rfl, Or.inr (Or.inr (Or.inr ⟨rfl, c1, c2, m⟩)), F0.out, F1.out, F3.out, F6.out, FB.out⟩
          case measure => simp [intOf]
        | true =>
          have e : g = (a, b') := by rw [HE.out, c1, c2, m]; rfl
          subst e
          clear HE
          go_wp2_with (go_at_call 69; refine (isSafe_any h s (⟨a, b'⟩ : Pr) HL.out HU.out (by assumption) (by assumption) (by assumption) (by assumption) _).mono ?_; try dsimp only; rw [m]; rintro e w8 ⟨rfl, hb⟩; have F0 : Hid (HAt w8 w.heap.size h) := F0.out.below hb F0.out.lt; have F1 : Hid (SW w8 (w.heap.size + 1) s) := F1.out.below hb F1.out.lt; have F3 : Hid (RJ w8 (w.heap.size + 3)) := F3.out.below hb F3.out.lt; have F6 : Hid (JW w8 b10 (⟨a, b'⟩ : Pr)) := F6.out.below hb F6.out.lt; have FB : Hid (Below w.heap.size w w8) := FB.out.trans (hb.mono FB.out.size); clear hb; obtain ⟨x0_0, x0_1, x0_2, x0_3, x0_4, x0_5, x0_6, x0_7, x0_8, x0_9, x0_10, x0_11⟩ := F0.out; obtain ⟨x1_0, x1_1, x1_2, x1_3, x1_4, x1_5, y1_0, y1_1, y1_2, y1_3, y1_4, y1_5⟩ := F1.out; obtain ⟨x3_0, x3_1, x3_2, x3_3, x3_4, x3_5, y3_0, y3_1, y3_2, y3_3, y3_4, y3_5⟩ := F3.out; obtain ⟨x6_0, x6_1, x6_2, x6_3, x6_4, x6_5, y6_0, y6_1, y6_2, y6_3, y6_4, y6_5⟩ := F6.out; try dsimp only at x6_0 x6_1 x6_2 x6_3 x6_4 x6_5)
          rw [Exit.noGoto_ret]
          change bodyPost _ _ _ _ _ (putJ w8 (w.heap.size + 3) (⟨a, b'⟩ : Pr))
          obtain ⟨Wf, hWf⟩ : ∃ Wf, putJ w8 (w.heap.size + 3) (⟨a, b'⟩ : Pr) = Wf := ⟨_, rfl⟩
          have HRf : JW Wf (w.heap.size + 3) (⟨a, b'⟩ : Pr) := hWf ▸ F3.out.put _
          have HBf : Below w.heap.size w Wf := hWf ▸ below_putJ FB.out (by omega) _
          rw [hWf]
          clear hWf
          obtain ⟨d0, d1, d2, d3, d4, d5, -, -, -, -, -, -⟩ := HRf
          try dsimp only at d0 d1 d2 d3 d4 d5
          exact bodyPost_ret (v := .agg #[.int .i64 a.push, .bool a.brk, .bool a.opn, .int .i64 b'.push, .bool b'.brk, .bool b'.opn]) (by simp [results, Try.results38, go_sem, d0, d1, d2, d3, d4, d5]) rfl ⟨rfl, HBf⟩
      · as_aux_lemma =>
        obtain ⟨x6_0, x6_1, x6_2, x6_3, x6_4, x6_5, y6_0, y6_1, y6_2, y6_3, y6_4, y6_5⟩ := F6.out
        have ix := idx3 a b a' b'
        go_upto_region 7 with fail
        clear ix x6_0 x6_1 x6_2 x6_3 x6_4 x6_5 y6_0 y6_1 y6_2 y6_3 y6_4 y6_5
        obtain ⟨w7, hw7⟩ : ∃ w7, w7 = ((((((wr.setCell ⟨b10, 0, none⟩ (.int .i64 a'.push)).setCell ⟨b10, 1, none⟩ (.bool a'.brk)).setCell ⟨b10, 2, none⟩ (.bool a'.opn)).setCell ⟨b10, 3, none⟩ (.int .i64 b'.push)).setCell ⟨b10, 4, none⟩ (.bool b'.brk)).setCell ⟨b10, 5, none⟩ (.bool b'.opn)) := ⟨_, rfl⟩
        rw [← hw7]
        have F0 : Hid (HAt w7 w.heap.size h) := by rw [hw7]; exact F0.out.below (below_putJ (Below.refl _ _) (Nat.le_refl _) (⟨a', b'⟩ : Pr)) (by omega)
        have F1 : Hid (SW w7 (w.heap.size + 1) s) := by rw [hw7]; exact F1.out.below (below_putJ (Below.refl _ _) (Nat.le_refl _) (⟨a', b'⟩ : Pr)) (by omega)
        have F3 : Hid (RJ w7 (w.heap.size + 3)) := by rw [hw7]; exact F3.out.putJ (by omega) (⟨a', b'⟩ : Pr)
        have F6 : Hid (JW w7 b10 (⟨a', b'⟩ : Pr)) := by rw [hw7]; exact F6.out.put (⟨a', b'⟩ : Pr)
        have FB : Hid (Below w.heap.size w w7) := by rw [hw7]; exact below_putJ FB.out (by omega) (⟨a', b'⟩ : Pr)
        clear hw7
        obtain ⟨x0_0, x0_1, x0_2, x0_3, x0_4, x0_5, x0_6, x0_7, x0_8, x0_9, x0_10, x0_11⟩ := F0.out
        obtain ⟨x1_0, x1_1, x1_2, x1_3, x1_4, x1_5, y1_0, y1_1, y1_2, y1_3, y1_4, y1_5⟩ := F1.out
        obtain ⟨x3_0, x3_1, x3_2, x3_3, x3_4, x3_5, y3_0, y3_1, y3_2, y3_3, y3_4, y3_5⟩ := F3.out
        obtain ⟨x6_0, x6_1, x6_2, x6_3, x6_4, x6_5, y6_0, y6_1, y6_2, y6_3, y6_4, y6_5⟩ := F6.out
        try dsimp only at x6_0 x6_1 x6_2 x6_3 x6_4 x6_5
        have m := HM.out
        have e : g = (a', b') := by rw [HE.out, c1, c2, c3]; rfl
        subst e
        clear HE
        go_wp2_with (go_at_call 69; refine (isSafe_any h s (⟨a', b'⟩ : Pr) HL.out HU.out (by assumption) (by assumption) (by assumption) (by assumption) _).mono ?_; try dsimp only; rw [m]; rintro e w8 ⟨rfl, hb⟩; have F0 : Hid (HAt w8 w.heap.size h) := F0.out.below hb F0.out.lt; have F1 : Hid (SW w8 (w.heap.size + 1) s) := F1.out.below hb F1.out.lt; have F3 : Hid (RJ w8 (w.heap.size + 3)) := F3.out.below hb F3.out.lt; have F6 : Hid (JW w8 b10 (⟨a', b'⟩ : Pr)) := F6.out.below hb F6.out.lt; have FB : Hid (Below w.heap.size w w8) := FB.out.trans (hb.mono FB.out.size); clear hb; obtain ⟨x0_0, x0_1, x0_2, x0_3, x0_4, x0_5, x0_6, x0_7, x0_8, x0_9, x0_10, x0_11⟩ := F0.out; obtain ⟨x1_0, x1_1, x1_2, x1_3, x1_4, x1_5, y1_0, y1_1, y1_2, y1_3, y1_4, y1_5⟩ := F1.out; obtain ⟨x3_0, x3_1, x3_2, x3_3, x3_4, x3_5, y3_0, y3_1, y3_2, y3_3, y3_4, y3_5⟩ := F3.out; obtain ⟨x6_0, x6_1, x6_2, x6_3, x6_4, x6_5, y6_0, y6_1, y6_2, y6_3, y6_4, y6_5⟩ := F6.out; try dsimp only at x6_0 x6_1 x6_2 x6_3 x6_4 x6_5)
        rw [Exit.noGoto_ret]
        change bodyPost _ _ _ _ _ (putJ w8 (w.heap.size + 3) (⟨a', b'⟩ : Pr))
        obtain ⟨Wf, hWf⟩ : ∃ Wf, putJ w8 (w.heap.size + 3) (⟨a', b'⟩ : Pr) = Wf := ⟨_, rfl⟩
        have HRf : JW Wf (w.heap.size + 3) (⟨a', b'⟩ : Pr) := hWf ▸ F3.out.put _
        have HBf : Below w.heap.size w Wf := hWf ▸ below_putJ FB.out (by omega) _
        rw [hWf]
        clear hWf
        obtain ⟨d0, d1, d2, d3, d4, d5, -, -, -, -, -, -⟩ := HRf
        try dsimp only at d0 d1 d2 d3 d4 d5
        exact bodyPost_ret (v := .agg #[.int .i64 a'.push, .bool a'.brk, .bool a'.opn, .int .i64 b'.push, .bool b'.brk, .bool b'.opn]) (by simp [results, Try.results38, go_sem, d0, d1, d2, d3, d4, d5]) rfl ⟨rfl, HBf⟩
end Go.Proofs.Ytclfdfcakmgffaa
