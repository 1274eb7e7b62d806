/-
  The program's house: are its numbers within their bounds (each brought to the nearest within, and the two houses held against one another)?
-/
import Derived.Test.YtoacnglcneliiaaGreatDoorFnd
namespace Go.Proofs.YtoacnglcneliiaaGreatDoor
open Go.RowKit Pl

/-- A number, brought within its bounds. -/
def cl (n lo hi : Int) : Int := max lo (min n hi)
theorem cl_iff {n lo hi : Int} (h : lo ≤ hi) : n = cl n lo hi ↔ lo ≤ n ∧ n ≤ hi := by unfold cl; omega
theorem bounded_any (n lo hi : Int) (w : World) :
    Calls Tryz.prog 84 #[.int .i64 n, .int .i64 lo, .int .i64 hi] w fun e w' => e = .returned (.int .i64 (cl n lo hi)) ∧ w' = w := by
  go_enter Tryz.func84, Tryz.ntmps84
  go_wp2
  all_goals
    go_ret
    exact ⟨ret_int (by unfold cl; omega), rfl⟩
theorem ite_and_ (x y : Int) (c : Bool) (w : World) : (if x = y then Result.ok (Value.bool c) w else Result.ok (Value.bool false) w) = Result.ok (Value.bool (x == y && c)) w := by
  by_cases h : x = y <;> simp [h]
/-- Are two houses the same? -/
def sameB (a b : Hs) : Bool := ((a.fl == b.fl) && ((a.gp == b.gp) && ((a.ln == b.ln) && ((a.rf == b.rf) && ((a.sp == b.sp) && ((a.pu == b.pu) && ((a.br == b.br) && ((a.dr == b.dr) && ((a.lv == b.lv) && ((a.dO == b.dO) && ((a.ld == b.ld) && (a.qu == b.qu))))))))))))
theorem eq_house (a b : Hs) (w : World) : (binOp .eql 25 (.agg #[.int .i64 a.fl, .int .i64 a.gp, .int .i64 a.ln, .int .i64 a.rf, .int .i64 a.sp, .int .i64 a.pu, .int .i64 a.br, .int .i64 a.dr, .int .i64 a.lv, .int .i64 a.dO, .int .i64 a.ld, .int .i64 a.qu]) (.agg #[.int .i64 b.fl, .int .i64 b.gp, .int .i64 b.ln, .int .i64 b.rf, .int .i64 b.sp, .int .i64 b.pu, .int .i64 b.br, .int .i64 b.dr, .int .i64 b.lv, .int .i64 b.dO, .int .i64 b.ld, .int .i64 b.qu])).run Tryz.prog w = .ok (.bool (sameB a b)) w := by
  rw [run_eql_struct]
  rw [run_equalIn_struct _ _ _ _ _ (by kernel_rfl) (by kernel_rfl)]
  simp only [Program.fieldsOf, Tryz.underlying25]
  simp [Op.eqFields, go_sem, Tryz.underlying2]
  simp only [ite_and_, sameB, Bool.and_true]
/-- A house, each number brought within its bounds. -/
def bnd (h : Hs) : Hs := ⟨cl h.fl 2 12, cl h.gp 1 20000, cl h.ln 1 20000, cl h.rf 1 20000, cl h.sp 1 500, cl h.pu 1 (cl h.sp 1 500), cl h.br (cl h.pu 1 (cl h.sp 1 500)) 500, cl h.dr 0 (cl h.pu 1 (cl h.sp 1 500) - 1), cl h.lv 0 50, cl h.dO 1 20, cl h.ld 1 20, cl h.qu 1 40⟩
theorem same_range (h : Hs) : sameB h (bnd h) = h.rangeB := by
  refine Bool.eq_iff_iff.2 ?_
  rw [Hs.ok_iff]
  unfold sameB bnd
  simp only [Bool.and_eq_true, beq_iff_eq]
  constructor
  · rintro ⟨a1, a2, a3, a4, a5, a6, a7, a8, a9, a10, a11, a12⟩
    rw [← a5] at a6 a7 a8
    have b5 := (cl_iff (by omega)).1 a5
    rw [← a6] at a7 a8
    have b6 := (cl_iff (by omega)).1 a6
    have b1 := (cl_iff (by omega)).1 a1
    have b2 := (cl_iff (by omega)).1 a2
    have b3 := (cl_iff (by omega)).1 a3
    have b4 := (cl_iff (by omega)).1 a4
    have b7 := (cl_iff (by omega)).1 a7
    have b8 := (cl_iff (by omega)).1 a8
    have b9 := (cl_iff (by omega)).1 a9
    have b10 := (cl_iff (by omega)).1 a10
    have b11 := (cl_iff (by omega)).1 a11
    have b12 := (cl_iff (by omega)).1 a12
    exact ⟨b1.1, b1.2, b2.1, b2.2, b4.1, b4.2, b3.1, b3.2, b5.1, b5.2, b6.1, b6.2, b7.1, b7.2, b8.1, b8.2, b9.1, b9.2, b10.1, b10.2, b11.1, b11.2, b12.1, b12.2⟩
  · intro o
    have s1 := o.sp1; have s2 := o.sp2; have p1 := o.pu1; have p2 := o.pu2; have r1 := o.br1; have r2 := o.br2
    have a5 := (cl_iff (n := h.sp) (lo := 1) (hi := 500) (by omega)).2 ⟨o.sp1, o.sp2⟩
    rw [← a5]
    have a6 := (cl_iff (n := h.pu) (lo := 1) (hi := h.sp) (by omega)).2 ⟨o.pu1, o.pu2⟩
    rw [← a6]
    exact ⟨(cl_iff (by omega)).2 ⟨o.fl1, o.fl2⟩, (cl_iff (by omega)).2 ⟨o.gp1, o.gp2⟩, (cl_iff (by omega)).2 ⟨o.ln1, o.ln2⟩, (cl_iff (by omega)).2 ⟨o.rf1, o.rf2⟩, rfl, rfl, (cl_iff (by omega)).2 ⟨o.br1, o.br2⟩, (cl_iff (by omega)).2 ⟨o.dr1, o.dr2⟩, (cl_iff (by omega)).2 ⟨o.lv1, o.lv2⟩, (cl_iff (by omega)).2 ⟨o.do1, o.do2⟩, (cl_iff (by omega)).2 ⟨o.ld1, o.ld2⟩, (cl_iff (by omega)).2 ⟨o.qu1, o.qu2⟩⟩

set_option maxHeartbeats 4000000 in
theorem boundedHouse_any (h g : Hs) (hg : bnd h = g) (w : World) :
    Calls Tryz.prog 62 #[.agg #[.int .i64 h.fl, .int .i64 h.gp, .int .i64 h.ln, .int .i64 h.rf, .int .i64 h.sp, .int .i64 h.pu, .int .i64 h.br, .int .i64 h.dr, .int .i64 h.lv, .int .i64 h.dO, .int .i64 h.ld, .int .i64 h.qu]] w fun e w' => e = .returned (.agg #[.int .i64 g.fl, .int .i64 g.gp, .int .i64 g.ln, .int .i64 g.rf, .int .i64 g.sp, .int .i64 g.pu, .int .i64 g.br, .int .i64 g.dr, .int .i64 g.lv, .int .i64 g.dO, .int .i64 g.ld, .int .i64 g.qu]) ∧ Below w.heap.size w w' := by
  obtain ⟨s, hs⟩ : ∃ s, cl h.sp 1 500 = s := ⟨_, rfl⟩
  have s1 : 1 ≤ s ∧ s ≤ 500 := by unfold cl at hs; omega
  obtain ⟨p, hp⟩ : ∃ p, cl h.pu 1 s = p := ⟨_, rfl⟩
  have p1 : 1 ≤ p ∧ p ≤ 500 := by unfold cl at hp; omega
  have e1 : IntKind.i64.wrap (p - 1) = p - 1 := IntWalk.i64_in _ (by omega)
  have HG : Hid (g = ⟨cl h.fl 2 12, cl h.gp 1 20000, cl h.ln 1 20000, cl h.rf 1 20000, s, p, cl h.br p 500, cl h.dr 0 (p - 1), cl h.lv 0 50, cl h.dO 1 20, cl h.ld 1 20, cl h.qu 1 40⟩) := by
    rw [← hg]; unfold bnd; rw [hs, hp]; exact rfl
  clear hg
  go_enter Tryz.func62, Tryz.ntmps62
  go_wp2_with (go_at_call 84; refine (bounded_any _ _ _ _).mono ?_; rintro e w' ⟨rfl, hw⟩; obtain rfl := hw.symm; clear hw)
  go_region_held3 (fun w'' => w''.cell? ⟨w.heap.size, 0, none⟩ = some (.int .i64 h.fl) ∧ w''.cell? ⟨w.heap.size, 1, none⟩ = some (.int .i64 h.gp) ∧ w''.cell? ⟨w.heap.size, 2, none⟩ = some (.int .i64 h.ln) ∧ w''.cell? ⟨w.heap.size, 3, none⟩ = some (.int .i64 h.rf) ∧ w''.cell? ⟨w.heap.size, 4, none⟩ = some (.int .i64 h.sp) ∧ w''.cell? ⟨w.heap.size, 5, none⟩ = some (.int .i64 h.pu) ∧ w''.cell? ⟨w.heap.size, 6, none⟩ = some (.int .i64 h.br) ∧ w''.cell? ⟨w.heap.size, 7, none⟩ = some (.int .i64 h.dr) ∧ w''.cell? ⟨w.heap.size, 8, none⟩ = some (.int .i64 h.lv) ∧ w''.cell? ⟨w.heap.size, 9, none⟩ = some (.int .i64 h.dO) ∧ w''.cell? ⟨w.heap.size, 10, none⟩ = some (.int .i64 h.ld) ∧ w''.cell? ⟨w.heap.size, 11, none⟩ = some (.int .i64 h.qu)) (go_keep) ((go_at_call 84; refine (bounded_any _ _ _ _).mono ?_; rintro e w' ⟨rfl, hw⟩; obtain rfl := hw.symm; clear hw))
  go_wp2
  have hgo := HG.out
  clear HG
  subst hgo
  exact bodyPost_ret (v := .agg #[.int .i64 (cl h.fl 2 12), .int .i64 (cl h.gp 1 20000), .int .i64 (cl h.ln 1 20000), .int .i64 (cl h.rf 1 20000), .int .i64 s, .int .i64 p, .int .i64 (cl h.br p 500), .int .i64 (cl h.dr 0 (p - 1)), .int .i64 (cl h.lv 0 50), .int .i64 (cl h.dO 1 20), .int .i64 (cl h.ld 1 20), .int .i64 (cl h.qu 1 40)]) (by simp [results, Tryz.results62, go_sem]) rfl ⟨rfl, (((Below.refl _ _).alloc (Nat.le_refl _) _).alloc (by simp) _).drew⟩
end Go.Proofs.YtoacnglcneliiaaGreatDoor
