/- Parts of the proof: LedB. -/
import Derived.Test.YteimojoicfjdjaaGreatZ37
import Derived.BigGuardPart
namespace Go.Proofs.YteimojoicfjdjaaGreat
set_option maxRecDepth 20000
set_option maxHeartbeats 16000000
open Value renaming int → I
open IntKind renaming i64 → Z
open Go.RowKit Pl
set_option linter.unusedSimpArgs false
set_option linter.unusedVariables false
theorem personFault_any(h:Hs)(hf:h.fault=0)(p:Pe)(ahead nx:Int)(n1:1≤nx)(n2:nx≤1000000000000000)(w:World) :
  Calls Tryz.prog 82 #[.agg #[I Z h.fl,I Z h.gp,I Z h.ln,I Z h.rf,I Z h.sp,I Z h.pu,I Z h.br,I Z h.dr,I Z h.lv,I Z h.dO,I Z h.ld,I Z h.qu],.agg #[I Z p.id,I Z p.fr,I Z p.tw,I Z p.sh,I Z p.ca,I Z p.st,I Z p.pl],I Z ahead,I Z nx] w fun e w'=>e=.returned (I Z (Hs.pers h nx ahead p))∧Below w.heap.size w w':=by
 obtain ⟨r,hr⟩:∃ r,Hs.pers h nx ahead p=r:=⟨_,rfl⟩
 rw [hr]
 unfold Hs.pers Hs.persC at hr
 have oo:=Hs.ok_of (Hs.fault_zero hf).1
 have f1:=oo.fl1;have f2:=oo.fl2
 clear oo
 have ex:IntKind.i64.wrap (nx - 1)=nx - 1:=IntWalk.i64_in _ (by omega)
 obtain ⟨c,hc⟩:∃ c,Hs.callC h p.fr p.tw=c:=⟨_,rfl⟩
 rw [hc] at hr
 have HC:=zH hc
 clear hc
 have F0:Hid (HAt ((w.alloc (.cells #[I Z h.fl,I Z h.gp,I Z h.ln,I Z h.rf,I Z h.sp,I Z h.pu,I Z h.br,I Z h.dr,I Z h.lv,I Z h.dO,I Z h.ld,I Z h.qu] 31)).alloc (.cells #[I Z p.id,I Z p.fr,I Z p.tw,I Z p.sh,I Z p.ca,I Z p.st,I Z p.pl] 79)) w.heap.size h):=(HAt.new w h _).below ((Below.refl _ _).alloc (Nat.le_refl _) _) (by simp)
 have F1:Hid (P7 ((w.alloc (.cells #[I Z h.fl,I Z h.gp,I Z h.ln,I Z h.rf,I Z h.sp,I Z h.pu,I Z h.br,I Z h.dr,I Z h.lv,I Z h.dO,I Z h.ld,I Z h.qu] 31)).alloc (.cells #[I Z p.id,I Z p.fr,I Z p.tw,I Z p.sh,I Z p.ca,I Z p.st,I Z p.pl] 79)) (w.heap.size + 1) 0 p):=P7.at_ _ p _ _ (by simp)
 have FB:Hid (Below w.heap.size w ((w.alloc (.cells #[I Z h.fl,I Z h.gp,I Z h.ln,I Z h.rf,I Z h.sp,I Z h.pu,I Z h.br,I Z h.dr,I Z h.lv,I Z h.dO,I Z h.ld,I Z h.qu] 31)).alloc (.cells #[I Z p.id,I Z p.fr,I Z p.tw,I Z p.sh,I Z p.ca,I Z p.st,I Z p.pl] 79))):=((Below.refl _ _).alloc (Nat.le_refl _) _).alloc (by simp) _
 cases k1:inB p.id 1 (nx - 1)
 ·rw [k1,if_neg (by simp)] at hr
  have HR:=zH hr
  clear hr
  go_enter Tryz.func82,Tryz.ntmps82
  go_wp2_with (go_at_call 23;refine (isWithin_any _ _ _ _).mono ?_;rintro e w' ⟨rfl,hw⟩;obtain rfl:=hw.symm;clear hw)
  go_ret
  exact ⟨ret_int HR.out,FB.out⟩
 rw [k1,if_pos rfl] at hr
 by_cases k2:p.id≤ahead
 ·rw [if_pos k2] at hr
  have HR:=zH hr
  clear hr
  have b2:decide (p.id≤ahead)=true:=decide_eq_true k2
  go_enter Tryz.func82,Tryz.ntmps82
  go_wp2_with (go_at_call 23;refine (isWithin_any _ _ _ _).mono ?_;rintro e w' ⟨rfl,hw⟩;obtain rfl:=hw.symm;clear hw)
  go_ret
  exact ⟨ret_int HR.out,FB.out⟩
 rw [if_neg k2] at hr
 have b2:decide (p.id≤ahead)=false:=decide_eq_false k2
 clear k2
 by_cases c0:c=0
 case neg=>
  rw [if_neg c0] at hr
  have HR:=zH hr
  have bn:(c != 0)=true:=by simpa using c0
  clear hr c0
  go_enter Tryz.func82,Tryz.ntmps82
  go_wp2_with (first | (go_at_call 23;refine (isWithin_any _ _ _ _).mono ?_;rintro e w' ⟨rfl,hw⟩;obtain rfl:=hw.symm;clear hw) | (go_at_call 131;refine (wayFault_any h (by omega) (by omega) p.fr p.tw _).mono ?_;rw [HC.out];rintro e w1 ⟨rfl,hb⟩;have F0:=zH (F0.out.below hb F0.out.lt);have F1:=zH (F1.out.below hb F1.out.lt);have FB:=tB FB hb;clear hb;obtain ⟨x0_0,x0_1,x0_2,x0_3,x0_4,x0_5,x0_6,x0_7,x0_8,x0_9,x0_10,x0_11⟩:=F0.out;obtain ⟨z0,z1,z2,z3,z4,z5,z6⟩:=F1.out))
  go_ret
  exact ⟨ret_int HR.out,FB.out⟩
 subst c0
 rw [if_pos rfl] at hr
 unfold inP at hr
 cases k3:inB p.sh 0 2
 ·rw [k3,if_neg (by simp)] at hr
  have HR:=zH hr
  clear hr
  have q3:(inB p.sh 0 2 && inB p.ca 0 1)=false:=by rw [k3];exact rfl
  go_enter Tryz.func82,Tryz.ntmps82
  go_wp2_with (first | (go_at_call 23;refine (isWithin_any _ _ _ _).mono ?_;rintro e w' ⟨rfl,hw⟩;obtain rfl:=hw.symm;clear hw) | (go_at_call 131;refine (wayFault_any h (by omega) (by omega) p.fr p.tw _).mono ?_;rw [HC.out];rintro e w1 ⟨rfl,hb⟩;have F0:=zH (F0.out.below hb F0.out.lt);have F1:=zH (F1.out.below hb F1.out.lt);have FB:=tB FB hb;clear hb;obtain ⟨x0_0,x0_1,x0_2,x0_3,x0_4,x0_5,x0_6,x0_7,x0_8,x0_9,x0_10,x0_11⟩:=F0.out;obtain ⟨z0,z1,z2,z3,z4,z5,z6⟩:=F1.out) | (go_at_call 132;refine (isCar_any _ _ _).mono ?_;rintro e w' ⟨rfl,hw⟩;obtain rfl:=hw.symm;clear hw))
  go_ret
  exact ⟨ret_int HR.out,FB.out⟩
 cases k4:inB p.ca 0 1
 ·rw [k3,k4,if_neg (by simp)] at hr
  have HR:=zH hr
  clear hr
  go_enter Tryz.func82,Tryz.ntmps82
  go_wp2_with (first | (go_at_call 23;refine (isWithin_any _ _ _ _).mono ?_;rintro e w' ⟨rfl,hw⟩;obtain rfl:=hw.symm;clear hw) | (go_at_call 131;refine (wayFault_any h (by omega) (by omega) p.fr p.tw _).mono ?_;rw [HC.out];rintro e w1 ⟨rfl,hb⟩;have F0:=zH (F0.out.below hb F0.out.lt);have F1:=zH (F1.out.below hb F1.out.lt);have FB:=tB FB hb;clear hb;obtain ⟨x0_0,x0_1,x0_2,x0_3,x0_4,x0_5,x0_6,x0_7,x0_8,x0_9,x0_10,x0_11⟩:=F0.out;obtain ⟨z0,z1,z2,z3,z4,z5,z6⟩:=F1.out) | (go_at_call 132;refine (isCar_any _ _ _).mono ?_;rintro e w' ⟨rfl,hw⟩;obtain rfl:=hw.symm;clear hw))
  go_ret
  exact ⟨ret_int HR.out,FB.out⟩
 cases k5:inB p.st 0 4
 ·rw [k3,k4,k5,if_neg (by simp)] at hr
  have HR:=zH hr
  clear hr
  go_enter Tryz.func82,Tryz.ntmps82
  go_wp2_with (first | (go_at_call 23;refine (isWithin_any _ _ _ _).mono ?_;rintro e w' ⟨rfl,hw⟩;obtain rfl:=hw.symm;clear hw) | (go_at_call 131;refine (wayFault_any h (by omega) (by omega) p.fr p.tw _).mono ?_;rw [HC.out];rintro e w1 ⟨rfl,hb⟩;have F0:=zH (F0.out.below hb F0.out.lt);have F1:=zH (F1.out.below hb F1.out.lt);have FB:=tB FB hb;clear hb;obtain ⟨x0_0,x0_1,x0_2,x0_3,x0_4,x0_5,x0_6,x0_7,x0_8,x0_9,x0_10,x0_11⟩:=F0.out;obtain ⟨z0,z1,z2,z3,z4,z5,z6⟩:=F1.out) | (go_at_call 132;refine (isCar_any _ _ _).mono ?_;rintro e w' ⟨rfl,hw⟩;obtain rfl:=hw.symm;clear hw))
  go_ret
  exact ⟨ret_int HR.out,FB.out⟩
 have s5:=inB_iff.1 k5
 cases k6:inB p.pl 0 (h.fl - 1)
 ·rw [k3,k4,k5,k6,if_neg (by simp)] at hr
  have HR:=zH hr
  clear hr
  go_enter Tryz.func82,Tryz.ntmps82
  go_wp2_with (first | (go_at_call 23;refine (isWithin_any _ _ _ _).mono ?_;rintro e w' ⟨rfl,hw⟩;obtain rfl:=hw.symm;clear hw) | (go_at_call 131;refine (wayFault_any h (by omega) (by omega) p.fr p.tw _).mono ?_;rw [HC.out];rintro e w1 ⟨rfl,hb⟩;have F0:=zH (F0.out.below hb F0.out.lt);have F1:=zH (F1.out.below hb F1.out.lt);have FB:=tB FB hb;clear hb;obtain ⟨x0_0,x0_1,x0_2,x0_3,x0_4,x0_5,x0_6,x0_7,x0_8,x0_9,x0_10,x0_11⟩:=F0.out;obtain ⟨z0,z1,z2,z3,z4,z5,z6⟩:=F1.out) | (go_at_call 132;refine (isCar_any _ _ _).mono ?_;rintro e w' ⟨rfl,hw⟩;obtain rfl:=hw.symm;clear hw) | (go_at_call 133;refine (isFloor_any h p.pl (by omega) (by omega) _).mono ?_;rintro e w2 ⟨rfl,hb⟩;have F0:=zH (F0.out.below hb F0.out.lt);have F1:=zH (F1.out.below hb F1.out.lt);have FB:=tB FB hb;clear hb;obtain ⟨x0_0,x0_1,x0_2,x0_3,x0_4,x0_5,x0_6,x0_7,x0_8,x0_9,x0_10,x0_11⟩:=F0.out;obtain ⟨z0,z1,z2,z3,z4,z5,z6⟩:=F1.out))
  go_ret
  exact ⟨ret_int HR.out,FB.out⟩
 rw [k3,k4,k5,k6,if_pos (by simp)] at hr
 cases k7:badAt p
 ·rw [k7,if_neg (by simp)] at hr
  have HR:=zH hr
  clear hr
  go_enter Tryz.func82,Tryz.ntmps82
  go_wp2_with (first | (go_at_call 23;refine (isWithin_any _ _ _ _).mono ?_;rintro e w' ⟨rfl,hw⟩;obtain rfl:=hw.symm;clear hw) | (go_at_call 131;refine (wayFault_any h (by omega) (by omega) p.fr p.tw _).mono ?_;rw [HC.out];rintro e w1 ⟨rfl,hb⟩;have F0:=zH (F0.out.below hb F0.out.lt);have F1:=zH (F1.out.below hb F1.out.lt);have FB:=tB FB hb;clear hb;obtain ⟨x0_0,x0_1,x0_2,x0_3,x0_4,x0_5,x0_6,x0_7,x0_8,x0_9,x0_10,x0_11⟩:=F0.out;obtain ⟨z0,z1,z2,z3,z4,z5,z6⟩:=F1.out) | (go_at_call 132;refine (isCar_any _ _ _).mono ?_;rintro e w' ⟨rfl,hw⟩;obtain rfl:=hw.symm;clear hw) | (go_at_call 133;refine (isFloor_any h p.pl (by omega) (by omega) _).mono ?_;rintro e w2 ⟨rfl,hb⟩;have F0:=zH (F0.out.below hb F0.out.lt);have F1:=zH (F1.out.below hb F1.out.lt);have FB:=tB FB hb;clear hb;obtain ⟨x0_0,x0_1,x0_2,x0_3,x0_4,x0_5,x0_6,x0_7,x0_8,x0_9,x0_10,x0_11⟩:=F0.out;obtain ⟨z0,z1,z2,z3,z4,z5,z6⟩:=F1.out) | (go_at_call 134;refine (isAtRight_any p (by omega) (by omega) _).mono ?_;rintro e w3 ⟨rfl,hb⟩;have F0:=zH (F0.out.below hb F0.out.lt);have F1:=zH (F1.out.below hb F1.out.lt);have FB:=tB FB hb;clear hb;obtain ⟨x0_0,x0_1,x0_2,x0_3,x0_4,x0_5,x0_6,x0_7,x0_8,x0_9,x0_10,x0_11⟩:=F0.out;obtain ⟨z0,z1,z2,z3,z4,z5,z6⟩:=F1.out))
  go_ret
  exact ⟨ret_int HR.out,FB.out⟩
 ·rw [k7,if_pos rfl] at hr
  have HR:=zH hr
  clear hr
  go_enter Tryz.func82,Tryz.ntmps82
  go_wp2_with (first | (go_at_call 23;refine (isWithin_any _ _ _ _).mono ?_;rintro e w' ⟨rfl,hw⟩;obtain rfl:=hw.symm;clear hw) | (go_at_call 131;refine (wayFault_any h (by omega) (by omega) p.fr p.tw _).mono ?_;rw [HC.out];rintro e w1 ⟨rfl,hb⟩;have F0:=zH (F0.out.below hb F0.out.lt);have F1:=zH (F1.out.below hb F1.out.lt);have FB:=tB FB hb;clear hb;obtain ⟨x0_0,x0_1,x0_2,x0_3,x0_4,x0_5,x0_6,x0_7,x0_8,x0_9,x0_10,x0_11⟩:=F0.out;obtain ⟨z0,z1,z2,z3,z4,z5,z6⟩:=F1.out) | (go_at_call 132;refine (isCar_any _ _ _).mono ?_;rintro e w' ⟨rfl,hw⟩;obtain rfl:=hw.symm;clear hw) | (go_at_call 133;refine (isFloor_any h p.pl (by omega) (by omega) _).mono ?_;rintro e w2 ⟨rfl,hb⟩;have F0:=zH (F0.out.below hb F0.out.lt);have F1:=zH (F1.out.below hb F1.out.lt);have FB:=tB FB hb;clear hb;obtain ⟨x0_0,x0_1,x0_2,x0_3,x0_4,x0_5,x0_6,x0_7,x0_8,x0_9,x0_10,x0_11⟩:=F0.out;obtain ⟨z0,z1,z2,z3,z4,z5,z6⟩:=F1.out) | (go_at_call 134;refine (isAtRight_any p (by omega) (by omega) _).mono ?_;rintro e w3 ⟨rfl,hb⟩;have F0:=zH (F0.out.below hb F0.out.lt);have F1:=zH (F1.out.below hb F1.out.lt);have FB:=tB FB hb;clear hb;obtain ⟨x0_0,x0_1,x0_2,x0_3,x0_4,x0_5,x0_6,x0_7,x0_8,x0_9,x0_10,x0_11⟩:=F0.out;obtain ⟨z0,z1,z2,z3,z4,z5,z6⟩:=F1.out))
  go_ret
  exact ⟨ret_int HR.out,FB.out⟩
end Go.Proofs.YteimojoicfjdjaaGreat
