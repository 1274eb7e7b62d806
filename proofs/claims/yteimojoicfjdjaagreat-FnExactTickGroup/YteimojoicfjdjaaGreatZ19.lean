/- Parts of the proof: PersE. -/
import Derived.Test.YteimojoicfjdjaaGreatZ13
import Derived.Test.YteimojoicfjdjaaGreatZ15
import Derived.Deep.RegionHeld3
import Derived.BigGuardPart
namespace Go.Proofs.YteimojoicfjdjaaGreat
set_option maxRecDepth 20000
set_option maxHeartbeats 16000000
open Value renaming int → I
open IntKind renaming i64 → Z
open Go.RowKit Pl
set_option linter.unusedSimpArgs false
set_option linter.unusedVariables false
theorem specCallFault_any(h:Hs)(f t:Int)(w:World) :
  Calls Tryz.prog 104 #[.agg #[I Z h.fl,I Z h.gp,I Z h.ln,I Z h.rf,I Z h.sp,I Z h.pu,I Z h.br,I Z h.dr,I Z h.lv,I Z h.dO,I Z h.ld,I Z h.qu],I Z f,I Z t] w fun e w'=>e=.returned (I Z (Hs.call h f t))∧Below w.heap.size w w':=by
 unfold Hs.call
 have F0:Hid (HAt (w.alloc (.cells #[I Z h.fl,I Z h.gp,I Z h.ln,I Z h.rf,I Z h.sp,I Z h.pu,I Z h.br,I Z h.dr,I Z h.lv,I Z h.dO,I Z h.ld,I Z h.qu] 31)) w.heap.size h):=HAt.at_ w h _ _ (by simp)
 have FB:Hid (Below w.heap.size w (w.alloc (.cells #[I Z h.fl,I Z h.gp,I Z h.ln,I Z h.rf,I Z h.sp,I Z h.pu,I Z h.br,I Z h.dr,I Z h.lv,I Z h.dO,I Z h.ld,I Z h.qu] 31))):=((Below.refl _ _).alloc (Nat.le_refl _) _)
 by_cases hf:h.fault=0
 ·rw [if_pos hf]
  have o:=Hs.ok_of (Hs.fault_zero hf).1
  have f1:=o.fl1;have f2:=o.fl2
  have en:IntKind.i64.wrap (h.fl - 1)=h.fl - 1:=IntWalk.i64_in _ (by omega)
  clear o
  unfold Hs.callC
  cases i1:inB f 0 (h.fl - 1)
  ·rw [if_neg (by simp)]
   go_enter Tryz.func104,Tryz.ntmps104
   go_wp2_with (first | (go_at_call 33;refine (specFault_any h _).mono ?_;rw [hf];rintro e w1 ⟨rfl,hb⟩;have F0:=zH (F0.out.below hb F0.out.lt);have FB:=tB FB hb;obtain ⟨x0_0,x0_1,x0_2,x0_3,x0_4,x0_5,x0_6,x0_7,x0_8,x0_9,x0_10,x0_11⟩:=F0.out;clear hb) | (go_at_call 16;refine (l1In_any _ _ _ _).mono ?_;rintro e w' ⟨rfl,hw⟩;obtain rfl:=hw.symm;clear hw))
   go_ret
   exact ⟨rfl,FB.out⟩
  ·cases i2:inB t 0 (h.fl - 1)
   ·rw [if_neg (by simp)]
    go_enter Tryz.func104,Tryz.ntmps104
    go_wp2_with (first | (go_at_call 33;refine (specFault_any h _).mono ?_;rw [hf];rintro e w1 ⟨rfl,hb⟩;have F0:=zH (F0.out.below hb F0.out.lt);have FB:=tB FB hb;obtain ⟨x0_0,x0_1,x0_2,x0_3,x0_4,x0_5,x0_6,x0_7,x0_8,x0_9,x0_10,x0_11⟩:=F0.out;clear hb) | (go_at_call 16;refine (l1In_any _ _ _ _).mono ?_;rintro e w' ⟨rfl,hw⟩;obtain rfl:=hw.symm;clear hw))
    go_ret
    exact ⟨rfl,FB.out⟩
   ·rw [if_pos ⟨rfl,rfl⟩]
    by_cases q:f=t
    ·rw [if_pos q]
     have b:(f == t)=true:=by simpa using q
     clear q
     go_enter Tryz.func104,Tryz.ntmps104
     go_wp2_with (first | (go_at_call 33;refine (specFault_any h _).mono ?_;rw [hf];rintro e w1 ⟨rfl,hb⟩;have F0:=zH (F0.out.below hb F0.out.lt);have FB:=tB FB hb;obtain ⟨x0_0,x0_1,x0_2,x0_3,x0_4,x0_5,x0_6,x0_7,x0_8,x0_9,x0_10,x0_11⟩:=F0.out;clear hb) | (go_at_call 16;refine (l1In_any _ _ _ _).mono ?_;rintro e w' ⟨rfl,hw⟩;obtain rfl:=hw.symm;clear hw))
     go_ret
     exact ⟨rfl,FB.out⟩
    ·rw [if_neg q]
     have b:(f == t)=false:=by simpa using q
     clear q
     go_enter Tryz.func104,Tryz.ntmps104
     go_wp2_with (first | (go_at_call 33;refine (specFault_any h _).mono ?_;rw [hf];rintro e w1 ⟨rfl,hb⟩;have F0:=zH (F0.out.below hb F0.out.lt);have FB:=tB FB hb;obtain ⟨x0_0,x0_1,x0_2,x0_3,x0_4,x0_5,x0_6,x0_7,x0_8,x0_9,x0_10,x0_11⟩:=F0.out;clear hb) | (go_at_call 16;refine (l1In_any _ _ _ _).mono ?_;rintro e w' ⟨rfl,hw⟩;obtain rfl:=hw.symm;clear hw))
     go_ret
     exact ⟨rfl,FB.out⟩
 ·rw [if_neg hf]
  have hn:(h.fault != 0)=true:=by simpa using hf
  clear hf
  go_enter Tryz.func104,Tryz.ntmps104
  go_wp2_with (go_at_call 33;refine (specFault_any h _).mono ?_;rintro e w1 ⟨rfl,hb⟩;have F0:=zH (F0.out.below hb F0.out.lt);have FB:=tB FB hb;obtain ⟨x0_0,x0_1,x0_2,x0_3,x0_4,x0_5,x0_6,x0_7,x0_8,x0_9,x0_10,x0_11⟩:=F0.out;clear hb)
  go_ret
  exact ⟨rfl,FB.out⟩
theorem l7Person_any(h:Hs)(hf:h.fault=0)(lb b o len cap:Nat)(nx:Int)(n1:1≤nx)(n2:nx≤1000000000000000)(l:List Pe)(i:Nat)(p:Pe)(hp:l[i]? = some p)(hl:l.length=len)(hlen:len≤60)(w:World)(hL:LAt w lb nx (some ⟨b,o,none⟩) len cap)(hP:∀ i p,l[i]? = some p→P7 w b (o + i * 7) p) :
  Calls Tryz.prog 60 #[.agg #[I Z h.fl,I Z h.gp,I Z h.ln,I Z h.rf,I Z h.sp,I Z h.pu,I Z h.br,I Z h.dr,I Z h.lv,I Z h.dO,I Z h.ld,I Z h.qu],.pointer (some ⟨lb,0,none⟩),I Z i] w fun e w'=>e=.returned (I Z (Hs.pers h nx (lastId l i) p))∧Below w.heap.size w w':=by
 obtain ⟨r,hr⟩:∃ r,Hs.pers h nx (lastId l i) p=r:=⟨_,rfl⟩
 rw [hr]
 have HR:=zH hr
 clear hr
 have oo:=Hs.ok_of (Hs.fault_zero hf).1
 have f1:=oo.fl1;have f2:=oo.fl2
 have en:IntKind.i64.wrap (h.fl - 1)=h.fl - 1:=IntWalk.i64_in _ (by omega)
 have ex:IntKind.i64.wrap (nx - 1)=nx - 1:=IntWalk.i64_in _ (by omega)
 have hi:i < len:=by rw [← hl];exact (List.getElem?_eq_some_iff.1 hp).1
 clear oo
 have F0:Hid (HAt (w.alloc (.cells #[I Z h.fl,I Z h.gp,I Z h.ln,I Z h.rf,I Z h.sp,I Z h.pu,I Z h.br,I Z h.dr,I Z h.lv,I Z h.dO,I Z h.ld,I Z h.qu] 31)) w.heap.size h):=HAt.new w h _
 have F2:Hid (LAt (w.alloc (.cells #[I Z h.fl,I Z h.gp,I Z h.ln,I Z h.rf,I Z h.sp,I Z h.pu,I Z h.br,I Z h.dr,I Z h.lv,I Z h.dO,I Z h.ld,I Z h.qu] 31)) lb nx (some ⟨b,o,none⟩) len cap):=hL.below ((Below.refl _ _).alloc (Nat.le_refl _) _) hL.lt
 have FP:Hid (P7 (w.alloc (.cells #[I Z h.fl,I Z h.gp,I Z h.ln,I Z h.rf,I Z h.sp,I Z h.pu,I Z h.br,I Z h.dr,I Z h.lv,I Z h.dO,I Z h.ld,I Z h.qu] 31)) b (o + i * 7) p):=(hP i p hp).alloc _
 have FB:Hid (Below w.heap.size w (w.alloc (.cells #[I Z h.fl,I Z h.gp,I Z h.ln,I Z h.rf,I Z h.sp,I Z h.pu,I Z h.br,I Z h.dr,I Z h.lv,I Z h.dO,I Z h.ld,I Z h.qu] 31))):=(Below.refl _ _).alloc (Nat.le_refl _) _
 obtain ⟨c0,c1,c2,c3,c4,c5,c6⟩:=FP.out
 obtain ⟨g0,g1⟩:=F2.out
 go_enter Tryz.func60,Tryz.ntmps60
 go_upto_region 2 with fail
 obtain ⟨W0,hW0⟩:∃ W0,W0=(w.alloc (.cells #[I Z h.fl,I Z h.gp,I Z h.ln,I Z h.rf,I Z h.sp,I Z h.pu,I Z h.br,I Z h.dr,I Z h.lv,I Z h.dO,I Z h.ld,I Z h.qu] 31)).alloc (.cells #[I Z p.id,I Z p.fr,I Z p.tw,I Z p.sh,I Z p.ca,I Z p.st,I Z p.pl] 79):=⟨_,rfl⟩
 have F0:Hid (HAt W0 w.heap.size h):=by rw [hW0];exact F0.out.below ((Below.refl _ _).alloc (Nat.le_refl _) _) F0.out.lt
 have F1:Hid (P7 W0 (w.heap.size + 1) 0 p):=by rw [hW0];exact P7.at_ _ p _ _ (by simp)
 have F2:Hid (LAt W0 lb nx (some ⟨b,o,none⟩) len cap):=by rw [hW0];exact F2.out.below ((Below.refl _ _).alloc (Nat.le_refl _) _) F2.out.lt
 have FB:Hid (Below w.heap.size w W0):=by rw [hW0];exact FB.out.alloc (by simp) _
 rw [← hW0]
 clear hW0 c0 c1 c2 c3 c4 c5 c6 g0 g1 FP
 cases k1:inB p.id 1 (nx - 1)
 ·have HR:Hid ((3:Int)=r):=by
   have q:=HR.out
   unfold Hs.pers at q
   rw [k1,if_neg (by simp)] at q
   exact q
  have F0:=zH (F0.out.below (Below.refl _ _).drew F0.out.lt)
  have F1:=zH (F1.out.below (Below.refl _ _).drew F1.out.lt)
  have F2:=zH (F2.out.below (Below.refl _ _).drew F2.out.lt)
  have FB:=zH (FB.out.drew)
  have m0:=F1.out.c0
  have l0:=F2.out.c0
  refine wp_region_held_drew (S:=(fun w''=>w''.cell? ⟨(w.heap.size + 1),0,none⟩=some (I Z p.id)∧w''.cell? ⟨lb,0,none⟩=some (I Z nx))) (by kernel_rfl) (by (try dsimp only);first | exact ⟨m0,l0⟩ | go_keep) (fun hHeld=>?_)
  obtain ⟨v_1,hw1⟩:∃ v_1,v_1=W0.drew:=⟨_,rfl⟩
  rw [← hw1] at F0 F1 F2 FB hHeld ⊢
  clear hw1
  have m0:=F1.out.c0
  have l0:=F2.out.c0
  refine tkz 0 rfl ?_
  refine tkz 1 rfl ?_
  refine tkz 2 rfl ?_
  refine tkz 3 rfl ?_
  refine tkz 4 rfl ?_
  refine tkz 5 rfl ?_
  refine tkz 6 rfl ?_
  refine rd1 7 (fun K hK=>?_)
  go_simp
  refine (l1In_any _ _ _ _).mono ?_
  rintro e w_ ⟨rfl,hw⟩
  obtain rfl:=hw.symm
  clear hw
  try dsimp only
  refine kp hK (fun hHeld=>?_)
  clear hK K
  refine tkz 8 rfl ?_
  refine wpAnyH_done (by kernel_rfl) ?_ _
  go_wp2_with fail
  go_ret
  exact ⟨ret_int HR.out,FB.out⟩
 ·have HR:Hid ((if p.id≤lastId l i then 1 else Hs.persC h p)=r):=by
   have q:=HR.out
   unfold Hs.pers at q
   rw [k1,if_pos rfl] at q
   exact q
  have kk:=inB_iff.1 k1
  have F0:=zH (F0.out.below (Below.refl _ _).drew F0.out.lt)
  have F1:=zH (F1.out.below (Below.refl _ _).drew F1.out.lt)
  have F2:=zH (F2.out.below (Below.refl _ _).drew F2.out.lt)
  have FB:=zH (FB.out.drew)
  have m0:=F1.out.c0
  have l0:=F2.out.c0
  refine wp_region_held_drew (S:=(fun w''=>w''.cell? ⟨(w.heap.size + 1),0,none⟩=some (I Z p.id)∧w''.cell? ⟨lb,0,none⟩=some (I Z nx))) (by kernel_rfl) (by (try dsimp only);first | exact ⟨m0,l0⟩ | go_keep) (fun hHeld=>?_)
  obtain ⟨v_2,hw1⟩:∃ v_2,v_2=W0.drew:=⟨_,rfl⟩
  rw [← hw1] at F0 F1 F2 FB hHeld ⊢
  clear hw1
  have m0:=F1.out.c0
  have l0:=F2.out.c0
  refine tkz 0 rfl ?_
  refine tkz 1 rfl ?_
  refine tkz 2 rfl ?_
  refine tkz 3 rfl ?_
  refine tkz 4 rfl ?_
  refine tkz 5 rfl ?_
  refine tkz 6 rfl ?_
  refine rd1 7 (fun K hK=>?_)
  go_simp
  refine (l1In_any _ _ _ _).mono ?_
  rintro e w_ ⟨rfl,hw⟩
  obtain rfl:=hw.symm
  clear hw
  try dsimp only
  refine kp hK (fun hHeld=>?_)
  clear hK K
  refine tkz 8 rfl ?_
  refine wpAnyH_done (by kernel_rfl) ?_ _
  go_upto_region 4 with fail
  obtain ⟨W1,rfl⟩:∃ W1,W1=v_2:=⟨_,rfl⟩
  cases i with
  | zero=>
   have b0:decide ((0:Int) < ((0:Nat):Int))=false:=by decide
   have HR:Hid (Hs.persC h p=r):=by
    have q:=HR.out
    rw [if_neg (show ¬ p.id≤lastId l 0 from (by show ¬ p.id≤(0:Int);omega))] at q
    exact q
   have F0:=zH (F0.out.below (Below.refl _ _).drew F0.out.lt)
   have F1:=zH (F1.out.below (Below.refl _ _).drew F1.out.lt)
   have F2:=zH (F2.out.below (Below.refl _ _).drew F2.out.lt)
   have FB:=zH (FB.out.drew)
   have m0:=F1.out.c0
   refine wp_region_held_drew (S:=(fun w''=>w''.cell? ⟨(w.heap.size + 1),0,none⟩=some (I Z p.id))) (by kernel_rfl) (by (try dsimp only);first | exact m0 | go_keep) (fun hHeld=>?_)
   obtain ⟨v_3,hw1⟩:∃ v_3,v_3=W1.drew:=⟨_,rfl⟩
   rw [← hw1] at F0 F1 F2 FB hHeld ⊢
   clear hw1
   have m0:=F1.out.c0
   refine tkz 0 rfl ?_
   refine tkz 1 rfl ?_
   refine tkz 2 rfl ?_
   refine tbz 3 rfl ?_
   refine tbz 4 rfl ?_
   refine tbz 5 rfl ?_
   refine tbz 6 rfl ?_
   refine tbz 7 rfl ?_
   refine tbz 8 rfl ?_
   refine tbz 9 rfl ?_
   refine tbz 10 rfl ?_
   refine tbz 11 rfl ?_
   refine tbz 12 rfl ?_
   refine tbz 13 rfl ?_
   refine tbz 14 rfl ?_
   refine tkz 15 rfl ?_
   refine wpAnyH_done (by kernel_rfl) ?_ _
   go_upto_region 6 with fail
   obtain ⟨W2,rfl⟩:∃ W2,W2=v_3:=⟨_,rfl⟩
   obtain ⟨x0_0,x0_1,x0_2,x0_3,x0_4,x0_5,x0_6,x0_7,x0_8,x0_9,x0_10,x0_11⟩:=F0.out
   obtain ⟨z0,z1,z2,z3,z4,z5,z6⟩:=F1.out
   clear F2
   have hcl:Hs.call h p.fr p.tw=Hs.callC h p.fr p.tw:=by unfold Hs.call;rw [if_pos hf]
   by_cases hc:Hs.callC h p.fr p.tw=0
   ·rw [hc] at hcl
    have HR:Hid ((if inP h p=true then (if badAt p=true then 1 else 0) else 3)=r):=by
     have q:=HR.out
     unfold Hs.persC at q
     rw [if_pos hc] at q
     exact q
    clear hc
    cases i1:inB p.sh 0 2 <;> cases i2:inB p.ca 0 1 <;> cases i3:inB p.st 0 4 <;> cases i4:inB p.pl 0 (h.fl - 1)
    all_goals
     go_wp2_with (first | (go_at_call 104;refine (specCallFault_any h _ _ _).mono ?_;rw [hcl];rintro e w5 ⟨rfl,hb⟩;have F0:=zH (F0.out.below hb F0.out.lt);have F1:=zH (F1.out.below hb F1.out.lt);have FB:=tB FB hb;clear hb;obtain ⟨x0_0,x0_1,x0_2,x0_3,x0_4,x0_5,x0_6,x0_7,x0_8,x0_9,x0_10,x0_11⟩:=F0.out;obtain ⟨z0,z1,z2,z3,z4,z5,z6⟩:=F1.out) | (go_at_call 16;refine (l1In_any _ _ _ _).mono ?_;rintro e w' ⟨rfl,hw⟩;obtain rfl:=hw.symm;clear hw))
     all_goals
      go_ret
      exact ⟨ret_int (by rw [← HR.out];simp only [inP,i1,i2,i3,i4] <;> simp [badAt, *]),FB.out⟩
   ·have hn:(Hs.callC h p.fr p.tw != 0)=true:=by simpa using hc
    have HR:Hid (Hs.callC h p.fr p.tw=r):=by
     have q:=HR.out
     unfold Hs.persC at q
     rw [if_neg hc] at q
     exact q
    clear hc
    go_wp2_with (go_at_call 104;refine (specCallFault_any h _ _ _).mono ?_;rw [hcl];rintro e w5 ⟨rfl,hb⟩;have F0:=zH (F0.out.below hb F0.out.lt);have F1:=zH (F1.out.below hb F1.out.lt);have FB:=tB FB hb;clear hb;obtain ⟨x0_0,x0_1,x0_2,x0_3,x0_4,x0_5,x0_6,x0_7,x0_8,x0_9,x0_10,x0_11⟩:=F0.out;obtain ⟨z0,z1,z2,z3,z4,z5,z6⟩:=F1.out)
    go_ret
    exact ⟨ret_int HR.out,FB.out⟩
  | succ j=>
   obtain ⟨q,hq⟩:∃ q,l[j]? = some q:=⟨_,List.getElem?_eq_getElem (by omega)⟩
   have FQ:Hid (P7 W1 b (o + j * 7) q):=(hP j q hq).below FB.out (hP j q hq).lt
   have el:lastId l (j + 1)=q.id:=by
    show (match l[j]? with | some q=>q.id | none=>0)=q.id
    rw [hq]
   rw [el] at HR
   have ej:IntKind.i64.wrap (((j + 1:Nat):Int) - 1)=(j:Int):=(IntWalk.i64_in _ (by omega)).trans (by omega)
   have ej2:IntKind.i64.wrap (j:Int)=(j:Int):=IntWalk.i64_in _ (by omega)
   have hj:j < len:=by omega
   have b0:decide ((0:Int) < ((j + 1:Nat):Int))=true:=decide_eq_true (by omega)
   clear hq el
   by_cases c:p.id≤q.id
   ·have HR:Hid ((1:Int)=r):=by
     have z:=HR.out
     rw [if_pos c] at z
     exact z
    have b1:decide (p.id≤q.id)=true:=decide_eq_true c
    have F0:=zH (F0.out.below (Below.refl _ _).drew F0.out.lt)
    have F1:=zH (F1.out.below (Below.refl _ _).drew F1.out.lt)
    have F2:=zH (F2.out.below (Below.refl _ _).drew F2.out.lt)
    have FB:=zH (FB.out.drew)
    have FQ:=zH (FQ.out.below (Below.refl _ _).drew FQ.out.lt)
    have m0:=F1.out.c0
    have l1:=F2.out.c1
    have q0:=FQ.out.c0
    refine wp_region_held_drew (S:=(fun w''=>w''.cell? ⟨(w.heap.size + 1),0,none⟩=some (I Z p.id)∧w''.cell? ⟨lb,1,none⟩=some (.slice (some ⟨b,o,none⟩) len cap)∧w''.cell? ⟨b,o + j * 7,none⟩=some (I Z q.id))) (by kernel_rfl) (by (try dsimp only);first | exact ⟨m0,l1,q0⟩ | go_keep) (fun hHeld=>?_)
    obtain ⟨v_4,hw1⟩:∃ v_4,v_4=W1.drew:=⟨_,rfl⟩
    rw [← hw1] at F0 F1 F2 FB FQ hHeld ⊢
    clear hw1
    have m0:=F1.out.c0
    have l1:=F2.out.c1
    have q0:=FQ.out.c0
    refine tkz 0 rfl ?_
    refine tkz 1 rfl ?_
    refine tkz 2 rfl ?_
    refine tkz 3 rfl ?_
    refine tkz 4 rfl ?_
    refine tkz 5 rfl ?_
    refine tkz 6 rfl ?_
    refine tkz 7 rfl ?_
    refine tkz 8 rfl ?_
    refine tkz 9 rfl ?_
    refine tkz 10 rfl ?_
    refine tkz 11 rfl ?_
    refine tkz 12 rfl ?_
    refine tkz 13 rfl ?_
    refine tkz 14 rfl ?_
    refine tkz 15 rfl ?_
    refine wpAnyH_done (by kernel_rfl) ?_ _
    go_wp2_with fail
    go_ret
    exact ⟨ret_int HR.out,FB.out⟩
   ·have HR:Hid (Hs.persC h p=r):=by
     have z:=HR.out
     rw [if_neg c] at z
     exact z
    have b1:decide (p.id≤q.id)=false:=decide_eq_false c
    have F0:=zH (F0.out.below (Below.refl _ _).drew F0.out.lt)
    have F1:=zH (F1.out.below (Below.refl _ _).drew F1.out.lt)
    have F2:=zH (F2.out.below (Below.refl _ _).drew F2.out.lt)
    have FB:=zH (FB.out.drew)
    have FQ:=zH (FQ.out.below (Below.refl _ _).drew FQ.out.lt)
    have m0:=F1.out.c0
    have l1:=F2.out.c1
    have q0:=FQ.out.c0
    refine wp_region_held_drew (S:=(fun w''=>w''.cell? ⟨(w.heap.size + 1),0,none⟩=some (I Z p.id)∧w''.cell? ⟨lb,1,none⟩=some (.slice (some ⟨b,o,none⟩) len cap)∧w''.cell? ⟨b,o + j * 7,none⟩=some (I Z q.id))) (by kernel_rfl) (by (try dsimp only);first | exact ⟨m0,l1,q0⟩ | go_keep) (fun hHeld=>?_)
    obtain ⟨v_5,hw1⟩:∃ v_5,v_5=W1.drew:=⟨_,rfl⟩
    rw [← hw1] at F0 F1 F2 FB FQ hHeld ⊢
    clear hw1
    have m0:=F1.out.c0
    have l1:=F2.out.c1
    have q0:=FQ.out.c0
    refine tkz 0 rfl ?_
    refine tkz 1 rfl ?_
    refine tkz 2 rfl ?_
    refine tkz 3 rfl ?_
    refine tkz 4 rfl ?_
    refine tkz 5 rfl ?_
    refine tkz 6 rfl ?_
    refine tkz 7 rfl ?_
    refine tkz 8 rfl ?_
    refine tkz 9 rfl ?_
    refine tkz 10 rfl ?_
    refine tkz 11 rfl ?_
    refine tkz 12 rfl ?_
    refine tkz 13 rfl ?_
    refine tkz 14 rfl ?_
    refine tkz 15 rfl ?_
    refine wpAnyH_done (by kernel_rfl) ?_ _
    go_upto_region 6 with fail
    obtain ⟨W2,rfl⟩:∃ W2,W2=v_5:=⟨_,rfl⟩
    obtain ⟨x0_0,x0_1,x0_2,x0_3,x0_4,x0_5,x0_6,x0_7,x0_8,x0_9,x0_10,x0_11⟩:=F0.out
    obtain ⟨z0,z1,z2,z3,z4,z5,z6⟩:=F1.out
    clear F2
    have hcl:Hs.call h p.fr p.tw=Hs.callC h p.fr p.tw:=by unfold Hs.call;rw [if_pos hf]
    by_cases hc:Hs.callC h p.fr p.tw=0
    ·rw [hc] at hcl
     have HR:Hid ((if inP h p=true then (if badAt p=true then 1 else 0) else 3)=r):=by
      have q:=HR.out
      unfold Hs.persC at q
      rw [if_pos hc] at q
      exact q
     clear hc
     cases i1:inB p.sh 0 2 <;> cases i2:inB p.ca 0 1 <;> cases i3:inB p.st 0 4 <;> cases i4:inB p.pl 0 (h.fl - 1)
     all_goals
      go_wp2_with (first | (go_at_call 104;refine (specCallFault_any h _ _ _).mono ?_;rw [hcl];rintro e w5 ⟨rfl,hb⟩;have F0:=zH (F0.out.below hb F0.out.lt);have F1:=zH (F1.out.below hb F1.out.lt);have FB:=tB FB hb;clear hb;obtain ⟨x0_0,x0_1,x0_2,x0_3,x0_4,x0_5,x0_6,x0_7,x0_8,x0_9,x0_10,x0_11⟩:=F0.out;obtain ⟨z0,z1,z2,z3,z4,z5,z6⟩:=F1.out) | (go_at_call 16;refine (l1In_any _ _ _ _).mono ?_;rintro e w' ⟨rfl,hw⟩;obtain rfl:=hw.symm;clear hw))
      all_goals
       go_ret
       exact ⟨ret_int (by rw [← HR.out];simp only [inP,i1,i2,i3,i4] <;> simp [badAt, *]),FB.out⟩
    ·have hn:(Hs.callC h p.fr p.tw != 0)=true:=by simpa using hc
     have HR:Hid (Hs.callC h p.fr p.tw=r):=by
      have q:=HR.out
      unfold Hs.persC at q
      rw [if_neg hc] at q
      exact q
     clear hc
     go_wp2_with (go_at_call 104;refine (specCallFault_any h _ _ _).mono ?_;rw [hcl];rintro e w5 ⟨rfl,hb⟩;have F0:=zH (F0.out.below hb F0.out.lt);have F1:=zH (F1.out.below hb F1.out.lt);have FB:=tB FB hb;clear hb;obtain ⟨x0_0,x0_1,x0_2,x0_3,x0_4,x0_5,x0_6,x0_7,x0_8,x0_9,x0_10,x0_11⟩:=F0.out;obtain ⟨z0,z1,z2,z3,z4,z5,z6⟩:=F1.out)
     go_ret
     exact ⟨ret_int HR.out,FB.out⟩
end Go.Proofs.YteimojoicfjdjaaGreat
