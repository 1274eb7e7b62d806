/- Parts of the proof: HouseI, HouseJ. -/
import Derived.Test.YteimojoicfjdjaaGreatZ5
import Derived.Test.YteimojoicfjdjaaGreatZ13
import Derived.Test.YteimojoicfjdjaaGreatZ16
import Derived.Deep.QuietTactic
import Derived.BigQuiet
import Derived.Deep.Draws
import Derived.Deep.RegionHeld3
namespace Go.Proofs.YteimojoicfjdjaaGreat
set_option maxHeartbeats 4000000
open Value renaming int → I
open IntKind renaming i64 → Z
open Go.RowKit Pl
theorem cl_iff{n lo hi:Int}(h:lo≤hi):n=cl n lo hi ↔ lo≤n∧n≤hi:=by unfold cl;omega
theorem bounded_any(n lo hi:Int)(w:World) :
  Calls Tryz.prog 164 #[I Z n,I Z lo,I Z hi] w fun e w'=>e=.returned (I Z (cl n lo hi))∧w'=w:=by
 go_enter Tryz.func164,Tryz.ntmps164
 go_wp2
 all_goals
  go_ret
  exact ⟨ret_int (by unfold cl;omega),rfl⟩
theorem ite_and_(x y:Int)(c:Bool)(w:World):(if x=y then Result.ok (Value.bool c) w else Result.ok (Value.bool false) w)=Result.ok (Value.bool (x == y && c)) w:=by
 by_cases h:x=y <;> simp [h]
def sameB(a b:Hs):Bool:=((a.fl == b.fl) && ((a.gp == b.gp) && ((a.ln == b.ln) && ((a.rf == b.rf) && ((a.sp == b.sp) && ((a.pu == b.pu) && ((a.br == b.br) && ((a.dr == b.dr) && ((a.lv == b.lv) && ((a.dO == b.dO) && ((a.ld == b.ld) && (a.qu == b.qu))))))))))))
theorem eq_house(a b:Hs)(w:World):(binOp .eql 31 (.agg #[I Z a.fl,I Z a.gp,I Z a.ln,I Z a.rf,I Z a.sp,I Z a.pu,I Z a.br,I Z a.dr,I Z a.lv,I Z a.dO,I Z a.ld,I Z a.qu]) (.agg #[I Z b.fl,I Z b.gp,I Z b.ln,I Z b.rf,I Z b.sp,I Z b.pu,I Z b.br,I Z b.dr,I Z b.lv,I Z b.dO,I Z b.ld,I Z b.qu])).run Tryz.prog w=.ok (.bool (sameB a b)) w:=by
 rw [run_eql_struct]
 rw [run_equalIn_struct _ _ _ _ _ (by kernel_rfl) (by kernel_rfl)]
 simp only [Program.fieldsOf,Tryz.underlying31]
 simp [Op.eqFields,go_sem,Tryz.underlying2]
 simp only [ite_and_,sameB,Bool.and_true]
def bnd(h:Hs):Hs:=⟨cl h.fl 2 12,cl h.gp 1 20000,cl h.ln 1 20000,cl h.rf 1 20000,cl h.sp 1 500,cl h.pu 1 (cl h.sp 1 500),cl h.br (cl h.pu 1 (cl h.sp 1 500)) 500,cl h.dr 0 (cl h.pu 1 (cl h.sp 1 500) - 1),cl h.lv 0 50,cl h.dO 1 20,cl h.ld 1 20,cl h.qu 1 40⟩
theorem same_range(h:Hs):sameB h (bnd h)=h.rangeB:=by
 refine Bool.eq_iff_iff.2 ?_
 rw [Hs.ok_iff]
 unfold sameB bnd
 simp only [Bool.and_eq_true,beq_iff_eq]
 constructor
 ·rintro ⟨a1,a2,a3,a4,a5,a6,a7,a8,a9,a10,a11,a12⟩
  rw [← a5] at a6 a7 a8
  have b5:=(cl_iff (by omega)).1 a5
  rw [← a6] at a7 a8
  have b6:=(cl_iff (by omega)).1 a6
  have b1:=(cl_iff (by omega)).1 a1
  have b2:=(cl_iff (by omega)).1 a2
  have b3:=(cl_iff (by omega)).1 a3
  have b4:=(cl_iff (by omega)).1 a4
  have b7:=(cl_iff (by omega)).1 a7
  have b8:=(cl_iff (by omega)).1 a8
  have b9:=(cl_iff (by omega)).1 a9
  have b10:=(cl_iff (by omega)).1 a10
  have b11:=(cl_iff (by omega)).1 a11
  have b12:=(cl_iff (by omega)).1 a12
  exact ⟨b1.1,b1.2,b2.1,b2.2,b4.1,b4.2,b3.1,b3.2,b5.1,b5.2,b6.1,b6.2,b7.1,b7.2,b8.1,b8.2,b9.1,b9.2,b10.1,b10.2,b11.1,b11.2,b12.1,b12.2⟩
 ·intro o
  have s1:=o.sp1;have s2:=o.sp2;have p1:=o.pu1;have p2:=o.pu2;have r1:=o.br1;have r2:=o.br2
  have a5:=(cl_iff (n:=h.sp) (lo:=1) (hi:=500) (by omega)).2 ⟨o.sp1,o.sp2⟩
  rw [← a5]
  have a6:=(cl_iff (n:=h.pu) (lo:=1) (hi:=h.sp) (by omega)).2 ⟨o.pu1,o.pu2⟩
  rw [← a6]
  exact ⟨(cl_iff (by omega)).2 ⟨o.fl1,o.fl2⟩,(cl_iff (by omega)).2 ⟨o.gp1,o.gp2⟩,(cl_iff (by omega)).2 ⟨o.ln1,o.ln2⟩,(cl_iff (by omega)).2 ⟨o.rf1,o.rf2⟩,rfl,rfl,(cl_iff (by omega)).2 ⟨o.br1,o.br2⟩,(cl_iff (by omega)).2 ⟨o.dr1,o.dr2⟩,(cl_iff (by omega)).2 ⟨o.lv1,o.lv2⟩,(cl_iff (by omega)).2 ⟨o.do1,o.do2⟩,(cl_iff (by omega)).2 ⟨o.ld1,o.ld2⟩,(cl_iff (by omega)).2 ⟨o.qu1,o.qu2⟩⟩
theorem boundedHouse_any(h g:Hs)(hg:bnd h=g)(w:World) :
  Calls Tryz.prog 122 #[.agg #[I Z h.fl,I Z h.gp,I Z h.ln,I Z h.rf,I Z h.sp,I Z h.pu,I Z h.br,I Z h.dr,I Z h.lv,I Z h.dO,I Z h.ld,I Z h.qu]] w fun e w'=>e=.returned (.agg #[I Z g.fl,I Z g.gp,I Z g.ln,I Z g.rf,I Z g.sp,I Z g.pu,I Z g.br,I Z g.dr,I Z g.lv,I Z g.dO,I Z g.ld,I Z g.qu])∧Below w.heap.size w w':=by
 obtain ⟨s,hs⟩:∃ s,cl h.sp 1 500=s:=⟨_,rfl⟩
 have s1:1≤s∧s≤500:=by unfold cl at hs;omega
 obtain ⟨p,hp⟩:∃ p,cl h.pu 1 s=p:=⟨_,rfl⟩
 have p1:1≤p∧p≤500:=by unfold cl at hp;omega
 have e1:IntKind.i64.wrap (p - 1)=p - 1:=IntWalk.i64_in _ (by omega)
 have HG:Hid (g=⟨cl h.fl 2 12,cl h.gp 1 20000,cl h.ln 1 20000,cl h.rf 1 20000,s,p,cl h.br p 500,cl h.dr 0 (p - 1),cl h.lv 0 50,cl h.dO 1 20,cl h.ld 1 20,cl h.qu 1 40⟩):=by
  rw [← hg];unfold bnd;rw [hs,hp];exact rfl
 clear hg
 go_enter Tryz.func122,Tryz.ntmps122
 go_wp2_with (go_at_call 164;refine (bounded_any _ _ _ _).mono ?_;rintro e w' ⟨rfl,hw⟩;obtain rfl:=hw.symm;clear hw)
 go_region_held3 (fun w''=>w''.cell? ⟨w.heap.size,0,none⟩=some (I Z h.fl)∧w''.cell? ⟨w.heap.size,1,none⟩=some (I Z h.gp)∧w''.cell? ⟨w.heap.size,2,none⟩=some (I Z h.ln)∧w''.cell? ⟨w.heap.size,3,none⟩=some (I Z h.rf)∧w''.cell? ⟨w.heap.size,4,none⟩=some (I Z h.sp)∧w''.cell? ⟨w.heap.size,5,none⟩=some (I Z h.pu)∧w''.cell? ⟨w.heap.size,6,none⟩=some (I Z h.br)∧w''.cell? ⟨w.heap.size,7,none⟩=some (I Z h.dr)∧w''.cell? ⟨w.heap.size,8,none⟩=some (I Z h.lv)∧w''.cell? ⟨w.heap.size,9,none⟩=some (I Z h.dO)∧w''.cell? ⟨w.heap.size,10,none⟩=some (I Z h.ld)∧w''.cell? ⟨w.heap.size,11,none⟩=some (I Z h.qu)) (go_keep) ((go_at_call 164;refine (bounded_any _ _ _ _).mono ?_;rintro e w' ⟨rfl,hw⟩;obtain rfl:=hw.symm;clear hw))
 go_wp2
 have hgo:=HG.out
 clear HG
 subst hgo
 exact bodyPost_ret (v:=.agg #[I Z (cl h.fl 2 12),I Z (cl h.gp 1 20000),I Z (cl h.ln 1 20000),I Z (cl h.rf 1 20000),I Z s,I Z p,I Z (cl h.br p 500),I Z (cl h.dr 0 (p - 1)),I Z (cl h.lv 0 50),I Z (cl h.dO 1 20),I Z (cl h.ld 1 20),I Z (cl h.qu 1 40)]) (by simp [results,Tryz.results122,go_sem]) rfl ⟨rfl,(((Below.refl _ _).alloc (Nat.le_refl _) _).alloc (by simp) _).drew⟩
end Go.Proofs.YteimojoicfjdjaaGreat
namespace Go.Proofs.YteimojoicfjdjaaGreat
set_option maxHeartbeats 1000000
open Value renaming int → I
open IntKind renaming i64 → Z
open Go.RowKit Pl
theorem isBounded_any(h:Hs)(w:World) :
  Calls Tryz.prog 76 #[.agg #[I Z h.fl,I Z h.gp,I Z h.ln,I Z h.rf,I Z h.sp,I Z h.pu,I Z h.br,I Z h.dr,I Z h.lv,I Z h.dO,I Z h.ld,I Z h.qu]] w fun e w'=>e=.returned (.bool h.rangeB)∧Below w.heap.size w w':=by
 obtain ⟨g,hg⟩:∃ g,bnd h=g:=⟨_,rfl⟩
 have HX:∀ w'':World,(binOp .eql 31 (.agg #[I Z h.fl,I Z h.gp,I Z h.ln,I Z h.rf,I Z h.sp,I Z h.pu,I Z h.br,I Z h.dr,I Z h.lv,I Z h.dO,I Z h.ld,I Z h.qu]) (.agg #[I Z g.fl,I Z g.gp,I Z g.ln,I Z g.rf,I Z g.sp,I Z g.pu,I Z g.br,I Z g.dr,I Z g.lv,I Z g.dO,I Z g.ld,I Z g.qu])).run Tryz.prog w''=.ok (.bool h.rangeB) w'':=fun w''=>by rw [eq_house,← hg,same_range]
 have HH:Hid (HAt (w.alloc (.cells #[I Z h.fl,I Z h.gp,I Z h.ln,I Z h.rf,I Z h.sp,I Z h.pu,I Z h.br,I Z h.dr,I Z h.lv,I Z h.dO,I Z h.ld,I Z h.qu] 31)).drew w.heap.size h):=(HAt.new w h _).drew
 have HB:Hid (Below w.heap.size w (w.alloc (.cells #[I Z h.fl,I Z h.gp,I Z h.ln,I Z h.rf,I Z h.sp,I Z h.pu,I Z h.br,I Z h.dr,I Z h.lv,I Z h.dO,I Z h.ld,I Z h.qu] 31)).drew):=((Below.refl _ _).alloc (Nat.le_refl _) _).drew
 go_enter Tryz.func76,Tryz.ntmps76
 go_wp2_with fail
 go_region_held3 (fun w''=>w''.cell? ⟨w.heap.size,0,none⟩=some (I Z h.fl)∧w''.cell? ⟨w.heap.size,1,none⟩=some (I Z h.gp)∧w''.cell? ⟨w.heap.size,2,none⟩=some (I Z h.ln)∧w''.cell? ⟨w.heap.size,3,none⟩=some (I Z h.rf)∧w''.cell? ⟨w.heap.size,4,none⟩=some (I Z h.sp)∧w''.cell? ⟨w.heap.size,5,none⟩=some (I Z h.pu)∧w''.cell? ⟨w.heap.size,6,none⟩=some (I Z h.br)∧w''.cell? ⟨w.heap.size,7,none⟩=some (I Z h.dr)∧w''.cell? ⟨w.heap.size,8,none⟩=some (I Z h.lv)∧w''.cell? ⟨w.heap.size,9,none⟩=some (I Z h.dO)∧w''.cell? ⟨w.heap.size,10,none⟩=some (I Z h.ld)∧w''.cell? ⟨w.heap.size,11,none⟩=some (I Z h.qu)) (go_keep) ((go_at_call 122;refine (boundedHouse_any h g hg _).mono ?_;rintro e w1 ⟨rfl,hb⟩;have HH:=zH (HH.out.below hb HH.out.lt);have HB:=zH (HB.out.trans (hb.mono HB.out.size));obtain ⟨q0,q1,q2,q3,q4,q5,q6,q7,q8,q9,q10,q11⟩:=HH.out;clear hb))
 all_goals
  go_wp2
  go_ret
  exact ⟨rfl,HB.out⟩
end Go.Proofs.YteimojoicfjdjaaGreat
