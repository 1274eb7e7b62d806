/- Parts of the proof: LedE. -/
import Derived.Test.YteimojoicfjdjaaGreatZ21
import Derived.Test.YteimojoicfjdjaaGreatZ38
import Derived.Test.YteimojoicfjdjaaGreatZ40
import Derived.BigGuardPart
namespace Go.Proofs.YteimojoicfjdjaaGreat
set_option maxRecDepth 20000
set_option maxHeartbeats 16000000
open Value renaming int → I
open IntKind renaming i64 → Z
open Go.RowKit Pl
set_option linter.unusedSimpArgs false
set_option linter.unusedVariables false
theorem lastId_next{l:List Pe}{i:Nat}{p:Pe}(h:l[i]? = some p):lastId l (i + 1)=p.id:=by
 show (match l[i]? with | some q=>q.id | none=>0)=_
 rw [h]
theorem pers_parts{h:Hs}{nx last:Int}{p:Pe}(e:Hs.pers h nx last p=0):(0≤p.sh∧p.sh≤2)∧(0≤p.ca∧p.ca≤1)∧(0≤p.st∧p.st≤4):=by
 unfold Hs.pers Hs.persC at e
 split at e
 case isFalse=>omega
 split at e
 case isTrue=>omega
 split at e
 case isFalse q=>exact absurd e q
 split at e
 case isFalse=>omega
 case isTrue q=>
  unfold inP at q
  simp only [Bool.and_eq_true,inB_iff] at q
  exact ⟨q.1,q.2.1,q.2.2.1⟩
theorem implLedgerFault_any(h:Hs)(x:Lg)(a:Option Addr)(cap:Nat)(hl:x.ps.length≤1048576)(w:World)(hP:PIn w w.heap.size a x.ps) :
  Calls Tryz.prog 44 #[.agg #[I Z h.fl,I Z h.gp,I Z h.ln,I Z h.rf,I Z h.sp,I Z h.pu,I Z h.br,I Z h.dr,I Z h.lv,I Z h.dO,I Z h.ld,I Z h.qu],.agg #[I Z x.nx,.slice a x.ps.length cap]] w fun e w'=>e=.returned (I Z (Hs.led h x))∧Below w.heap.size w w':=by
 unfold Hs.led
 have HP:=zH hP
 have F0:Hid (HAt ((w.alloc (.cells #[I Z h.fl,I Z h.gp,I Z h.ln,I Z h.rf,I Z h.sp,I Z h.pu,I Z h.br,I Z h.dr,I Z h.lv,I Z h.dO,I Z h.ld,I Z h.qu] 31)).alloc (.cells #[I Z x.nx,.slice a x.ps.length cap] 35)) w.heap.size h):=(HAt.new w h _).below ((Below.refl _ _).alloc (Nat.le_refl _) _) (by simp)
 have F1:Hid (LAt ((w.alloc (.cells #[I Z h.fl,I Z h.gp,I Z h.ln,I Z h.rf,I Z h.sp,I Z h.pu,I Z h.br,I Z h.dr,I Z h.lv,I Z h.dO,I Z h.ld,I Z h.qu] 31)).alloc (.cells #[I Z x.nx,.slice a x.ps.length cap] 35)) (w.heap.size + 1) x.nx a x.ps.length cap):=(LW.at_ _ x.nx (.slice a x.ps.length cap) _ _ (by simp)).lat
 have FB:Hid (Below w.heap.size w ((w.alloc (.cells #[I Z h.fl,I Z h.gp,I Z h.ln,I Z h.rf,I Z h.sp,I Z h.pu,I Z h.br,I Z h.dr,I Z h.lv,I Z h.dO,I Z h.ld,I Z h.qu] 31)).alloc (.cells #[I Z x.nx,.slice a x.ps.length cap] 35))):=((Below.refl _ _).alloc (Nat.le_refl _) _).alloc (by simp) _
 clear hP
 by_cases hf:h.fault=0
 case neg=>
  rw [if_neg hf]
  have hn:(h.fault != 0)=true:=by simpa using hf
  clear hf
  go_enter Tryz.func44,Tryz.ntmps44
  go_wp2_with (go_at_call 42;refine (implFault_any h _).mono ?_;  rintro e w1 ⟨rfl,hb⟩;have F0:=zH (F0.out.below hb F0.out.lt);have F1:=zH (F1.out.below hb F1.out.lt);have FB:=tB FB hb;clear hb;obtain ⟨x0_0,x0_1,x0_2,x0_3,x0_4,x0_5,x0_6,x0_7,x0_8,x0_9,x0_10,x0_11⟩:=F0.out;obtain ⟨g0,g1⟩:=F1.out)
  go_ret
  exact ⟨rfl,FB.out⟩
 rw [if_pos hf]
 have oo:=Hs.ok_of (Hs.fault_zero hf).1
 have d1:=oo.ld1;have d2:=oo.ld2
 clear oo
 unfold Hs.ledC
 cases k1:inB x.nx 1 1000000000000000
 ·rw [if_neg (by simp)]
  go_enter Tryz.func44,Tryz.ntmps44
  go_wp2_with (first | (go_at_call 42;refine (implFault_any h _).mono ?_;rw [hf];rintro e w1 ⟨rfl,hb⟩;have F0:=zH (F0.out.below hb F0.out.lt);have F1:=zH (F1.out.below hb F1.out.lt);have FB:=tB FB hb;clear hb;obtain ⟨x0_0,x0_1,x0_2,x0_3,x0_4,x0_5,x0_6,x0_7,x0_8,x0_9,x0_10,x0_11⟩:=F0.out;obtain ⟨g0,g1⟩:=F1.out) | (go_at_call 23;refine (isWithin_any _ _ _ _).mono ?_;rintro e w' ⟨rfl,hw⟩;obtain rfl:=hw.symm;clear hw))
  go_ret
  exact ⟨rfl,FB.out⟩
 rw [if_pos rfl]
 have kk:=inB_iff.1 k1
 by_cases k2:60 < x.ps.length
 ·rw [if_pos k2]
  have b2:decide ((60:Int) < (x.ps.length:Int))=true:=decide_eq_true (by omega)
  go_enter Tryz.func44,Tryz.ntmps44
  go_wp2_with (first | (go_at_call 42;refine (implFault_any h _).mono ?_;rw [hf];rintro e w1 ⟨rfl,hb⟩;have F0:=zH (F0.out.below hb F0.out.lt);have F1:=zH (F1.out.below hb F1.out.lt);have FB:=tB FB hb;clear hb;obtain ⟨x0_0,x0_1,x0_2,x0_3,x0_4,x0_5,x0_6,x0_7,x0_8,x0_9,x0_10,x0_11⟩:=F0.out;obtain ⟨g0,g1⟩:=F1.out) | (go_at_call 23;refine (isWithin_any _ _ _ _).mono ?_;rintro e w' ⟨rfl,hw⟩;obtain rfl:=hw.symm;clear hw))
  go_ret
  exact ⟨rfl,FB.out⟩
 rw [if_neg k2]
 have b2:decide ((60:Int) < (x.ps.length:Int))=false:=decide_eq_false (by omega)
 obtain ⟨r,hr⟩:∃ r,(if Hs.first h x.nx 0 x.ps=0 then (if h.qu < cnt 0 (-1) 0 x.ps then 2 else if Hs.over h x.ps=true then 2 else 0) else Hs.first h x.nx 0 x.ps)=r:=⟨_,rfl⟩
 rw [hr]
 have HR:=zH hr
 clear hr
 go_enter Tryz.func44,Tryz.ntmps44
 go_wp2_with (first | (go_at_call 42;refine (implFault_any h _).mono ?_;rw [hf];rintro e w1 ⟨rfl,hb⟩;have F0:=zH (F0.out.below hb F0.out.lt);have F1:=zH (F1.out.below hb F1.out.lt);have FB:=tB FB hb;clear hb;obtain ⟨x0_0,x0_1,x0_2,x0_3,x0_4,x0_5,x0_6,x0_7,x0_8,x0_9,x0_10,x0_11⟩:=F0.out;obtain ⟨g0,g1⟩:=F1.out) | (go_at_call 23;refine (isWithin_any _ _ _ _).mono ?_;rintro e w' ⟨rfl,hw⟩;obtain rfl:=hw.symm;clear hw))
 clear x0_0 x0_1 x0_2 x0_3 x0_4 x0_5 x0_6 x0_7 x0_8 x0_9 x0_10 x0_11 g0 g1
 go_loopw [6,26] (fun aa ii wr=>∃ i:Nat,ii=I Z i∧aa=I Z (lastId x.ps i)∧i≤x.ps.length∧(∀ j q,j < i→x.ps[j]? = some q→Hs.pers h x.nx (if j=0 then 0 else lastId x.ps j) q=0)∧HAt wr w.heap.size h∧LAt wr (w.heap.size + 1) x.nx a x.ps.length cap∧Below w.heap.size w wr) (fun _ ii _=>x.ps.length - (intOf ii).toNat)
 case atStart=>exact ⟨0,rfl,rfl,by omega,fun j q hj=>absurd hj (by omega),F0.out,F1.out,FB.out⟩
 case round=>
  obtain ⟨i,rfl,rfl,hi,hok,h0,h1,h2⟩:=hrel
  have HOK:=zH hok
  have G0:=zH h0
  have G1:=zH h1
  have GB:=zH h2
  clear h0 h1 h2 hok
  obtain ⟨x0_0,x0_1,x0_2,x0_3,x0_4,x0_5,x0_6,x0_7,x0_8,x0_9,x0_10,x0_11⟩:=G0.out
  obtain ⟨g0,g1⟩:=G1.out
  by_cases hlt:i < x.ps.length
  ·obtain ⟨p,hp⟩:∃ p,x.ps[i]? = some p:=⟨_,List.getElem?_eq_getElem hlt⟩
   have H0:=zH hp
   have FS:Hid (Hs.first h x.nx 0 x.ps=if Hs.pers h x.nx (if i=0 then 0 else lastId x.ps i) p=0 then Hs.first h x.nx p.id (x.ps.drop (i + 1)) else Hs.pers h x.nx (if i=0 then 0 else lastId x.ps i) p):=first_step hp HOK.out
   have el:(if i=0 then 0 else lastId x.ps i)=lastId x.ps i:=by
    cases i with
    | zero=>rfl
    | succ i=>rw [if_neg (by omega)]
   rw [el] at FS
   rcases HP.out with hz | ⟨b,o,ha,hbl,h7⟩
   ·rw [hz] at hlt;simp at hlt
   subst ha
   obtain ⟨c0,c1,c2,c3,c4,c5,c6⟩:=(h7 i p hp).below GB.out hbl
   obtain ⟨c,hc⟩:∃ c,Hs.pers h x.nx (lastId x.ps i) p=c:=⟨_,rfl⟩
   rw [hc] at FS
   have HC:=zH hc
   have HLn:Hid (lastId x.ps (i + 1)=p.id):=lastId_next hp
   obtain ⟨la,hla⟩:∃ la,lastId x.ps i=la:=⟨_,rfl⟩
   rw [hla] at HC
   rw [hla]
   have HLA:=zH hla
   clear hc h7 hp hla
   by_cases cz:c=0
   ·subst cz
    have HOK':Hid (∀ j q,j < i + 1→x.ps[j]? = some q→Hs.pers h x.nx (if j=0 then 0 else lastId x.ps j) q=0):=by
     intro j q hj hq
     by_cases ej:j=i
     ·subst ej
      rw [H0.out] at hq
      cases hq
      rw [el,HLA.out]
      exact HC.out
     ·exact HOK.out j q (by omega) hq
    clear el
    go_upto_region 12 with fail
    obtain ⟨pb,hpb⟩:∃ pb,pb=wr.heap.size:=⟨_,rfl⟩
    obtain ⟨W1,hW1⟩:∃ W1,W1=wr.alloc (.cells #[I Z p.id,I Z p.fr,I Z p.tw,I Z p.sh,I Z p.ca,I Z p.st,I Z p.pl] 79):=⟨_,rfl⟩
    have G0:Hid (HAt W1 w.heap.size h):=by rw [hW1];exact G0.out.alloc _
    have G1:Hid (LAt W1 (w.heap.size + 1) x.nx (some ⟨b,o,none⟩) x.ps.length cap):=by rw [hW1];exact G1.out.below ((Below.refl _ _).alloc (Nat.le_refl _) _) G1.out.lt
    have G3:Hid (P7 W1 pb 0 p):=by rw [hW1];exact P7.at_ wr p _ _ hpb
    have GB:Hid (Below w.heap.size w W1):=by rw [hW1];exact GB.out.alloc GB.out.size _
    rw [← hW1,← hpb]
    clear hW1 hpb c0 c1 c2 c3 c4 c5 c6
    obtain ⟨x0_0,x0_1,x0_2,x0_3,x0_4,x0_5,x0_6,x0_7,x0_8,x0_9,x0_10,x0_11⟩:=G0.out
    obtain ⟨g0,g1⟩:=G1.out
    obtain ⟨z0,z1,z2,z3,z4,z5,z6⟩:=G3.out
    go_wp2_with (go_at_call 82;refine (personFault_any h hf p la x.nx kk.1 kk.2 _).mono ?_;rw [HC.out];rintro e w2 ⟨rfl,hb⟩;have G0:=zH (G0.out.below hb G0.out.lt);have G1:=zH (G1.out.below hb G1.out.lt);have G3:=zH (G3.out.below hb G3.out.lt);have GB:=zH (GB.out.trans (hb.mono GB.out.size));clear hb;obtain ⟨z0,z1,z2,z3,z4,z5,z6⟩:=G3.out)
    go_roundw
    case rel=>exact ⟨i + 1,by simp,by rw [HLn.out],by omega,HOK'.out,G0.out,G1.out,GB.out⟩
    case measure=>simp [intOf];omega
   ·have hn:(c != 0)=true:=by simpa using cz
    have HR:Hid (c=r):=by
     have q:=FS.out
     rw [if_neg cz] at q
     have z:=HR.out
     rw [q,if_neg cz] at z
     exact z
    clear el cz FS
    go_upto_region 12 with fail
    obtain ⟨pb,hpb⟩:∃ pb,pb=wr.heap.size:=⟨_,rfl⟩
    obtain ⟨W1,hW1⟩:∃ W1,W1=wr.alloc (.cells #[I Z p.id,I Z p.fr,I Z p.tw,I Z p.sh,I Z p.ca,I Z p.st,I Z p.pl] 79):=⟨_,rfl⟩
    have G0:Hid (HAt W1 w.heap.size h):=by rw [hW1];exact G0.out.alloc _
    have G1:Hid (LAt W1 (w.heap.size + 1) x.nx (some ⟨b,o,none⟩) x.ps.length cap):=by rw [hW1];exact G1.out.below ((Below.refl _ _).alloc (Nat.le_refl _) _) G1.out.lt
    have G3:Hid (P7 W1 pb 0 p):=by rw [hW1];exact P7.at_ wr p _ _ hpb
    have GB:Hid (Below w.heap.size w W1):=by rw [hW1];exact GB.out.alloc GB.out.size _
    rw [← hW1,← hpb]
    clear hW1 hpb c0 c1 c2 c3 c4 c5 c6
    obtain ⟨x0_0,x0_1,x0_2,x0_3,x0_4,x0_5,x0_6,x0_7,x0_8,x0_9,x0_10,x0_11⟩:=G0.out
    obtain ⟨g0,g1⟩:=G1.out
    obtain ⟨z0,z1,z2,z3,z4,z5,z6⟩:=G3.out
    go_wp2_with (go_at_call 82;refine (personFault_any h hf p la x.nx kk.1 kk.2 _).mono ?_;rw [HC.out];rintro e w2 ⟨rfl,hb⟩;have G0:=zH (G0.out.below hb G0.out.lt);have G1:=zH (G1.out.below hb G1.out.lt);have G3:=zH (G3.out.below hb G3.out.lt);have GB:=zH (GB.out.trans (hb.mono GB.out.size));clear hb;obtain ⟨z0,z1,z2,z3,z4,z5,z6⟩:=G3.out)
    go_ret
    exact ⟨ret_int HR.out,GB.out⟩
  ·have ei:i=x.ps.length:=by omega
   subst ei
   have ef:Hs.first h x.nx 0 x.ps=0:=first_all HOK.out
   have HS:Hid (∀ (i:Nat) (p:Pe),x.ps[i]? = some p→(0≤p.sh∧p.sh≤2)∧(0≤p.ca∧p.ca≤1)∧(0≤p.st∧p.st≤4)):=fun i p hp=>pers_parts (HOK.out i p (List.getElem?_eq_some_iff.1 hp).1 hp)
   have HR:Hid ((if Hs.crowd h x.ps=true then 2 else 0)=r):=by
    have q:=HR.out
    rw [if_pos ef] at q
    rw [← q]
    unfold Hs.crowd
    by_cases c1:h.qu < cnt 0 (-1) 0 x.ps
    ·rw [if_pos c1,if_pos (by simp [c1])]
     exact rfl
    ·rw [if_neg c1]
     simp [c1]
     exact trivial
   clear ef HOK hlt hi
   have CR:=fun W hW=>isCrowded_any h (by omega) d2 x.ps a cap hl HS.out W hW
   cases kc:Hs.crowd h x.ps
   ·have HR:Hid ((0:Int)=r):=by
     have q:=HR.out
     rw [kc] at q
     exact q
    go_wp2_with (go_at_call 83;refine (CR _ ((HP.out.below GB.out (Nat.le_refl _)).mono GB.out.size)).mono ?_;rw [kc];rintro e w3 ⟨rfl,hb⟩;have GB:=zH (GB.out.trans (hb.mono GB.out.size));clear hb)
    go_ret
    exact ⟨ret_int HR.out,GB.out⟩
   ·have HR:Hid ((2:Int)=r):=by
     have q:=HR.out
     rw [kc] at q
     exact q
    go_wp2_with (go_at_call 83;refine (CR _ ((HP.out.below GB.out (Nat.le_refl _)).mono GB.out.size)).mono ?_;rw [kc];rintro e w3 ⟨rfl,hb⟩;have GB:=zH (GB.out.trans (hb.mono GB.out.size));clear hb)
    go_ret
    exact ⟨ret_int HR.out,GB.out⟩
theorem led_fl{h:Hs}{x:Lg}(hk:Hs.led h x=0):h.Ok:=by
 have hf:h.fault=0:=by
  unfold Hs.led at hk
  by_cases q:h.fault=0
  ·exact q
  ·rw [if_neg q] at hk;exact hk
 exact Hs.ok_of (Hs.fault_zero hf).1
theorem askd_zero{h:Hs}{x:Lg}{sh ca:Int}:Hs.askd h x sh ca 0=if Hs.led h x=0 then (if carB sh ca=true then 0 else 3) else Hs.led h x:=by
 unfold Hs.askd
 by_cases hk:Hs.led h x=0
 ·rw [if_pos hk,if_pos hk]
  have o:=(led_fl hk).fl1
  have i:inB 0 0 (h.fl - 1)=true:=inB_iff.2 ⟨by omega,by omega⟩
  by_cases c:carB sh ca=true
  ·rw [if_pos ⟨c,i⟩,if_pos c]
  ·rw [if_neg (fun q=>c q.1),if_neg c]
 ·rw [if_neg hk,if_neg hk]
theorem askedCarFault_any(h:Hs)(x:Lg)(sh ca:Int)(a:Option Addr)(cap:Nat)(hl:x.ps.length≤1048576)(w:World)(hP:PIn w w.heap.size a x.ps) :
  Calls Tryz.prog 194 #[.agg #[I Z h.fl,I Z h.gp,I Z h.ln,I Z h.rf,I Z h.sp,I Z h.pu,I Z h.br,I Z h.dr,I Z h.lv,I Z h.dO,I Z h.ld,I Z h.qu],.agg #[I Z x.nx,.slice a x.ps.length cap],I Z sh,I Z ca] w fun e w'=>e=.returned (I Z (Hs.askd h x sh ca 0))∧Below w.heap.size w w':=by
 rw [askd_zero]
 have HP:=zH hP
 have F0:Hid (HAt ((w.alloc (.cells #[I Z h.fl,I Z h.gp,I Z h.ln,I Z h.rf,I Z h.sp,I Z h.pu,I Z h.br,I Z h.dr,I Z h.lv,I Z h.dO,I Z h.ld,I Z h.qu] 31)).alloc (.cells #[I Z x.nx,.slice a x.ps.length cap] 35)) w.heap.size h):=(HAt.new w h _).below ((Below.refl _ _).alloc (Nat.le_refl _) _) (by simp)
 have F1:Hid (LAt ((w.alloc (.cells #[I Z h.fl,I Z h.gp,I Z h.ln,I Z h.rf,I Z h.sp,I Z h.pu,I Z h.br,I Z h.dr,I Z h.lv,I Z h.dO,I Z h.ld,I Z h.qu] 31)).alloc (.cells #[I Z x.nx,.slice a x.ps.length cap] 35)) (w.heap.size + 1) x.nx a x.ps.length cap):=(LW.at_ _ x.nx (.slice a x.ps.length cap) _ _ (by simp)).lat
 have FB:Hid (Below w.heap.size w ((w.alloc (.cells #[I Z h.fl,I Z h.gp,I Z h.ln,I Z h.rf,I Z h.sp,I Z h.pu,I Z h.br,I Z h.dr,I Z h.lv,I Z h.dO,I Z h.ld,I Z h.qu] 31)).alloc (.cells #[I Z x.nx,.slice a x.ps.length cap] 35))):=((Below.refl _ _).alloc (Nat.le_refl _) _).alloc (by simp) _
 clear hP
 by_cases hk:Hs.led h x=0
 ·rw [if_pos hk]
  cases kc:(inB sh 0 2 && inB ca 0 1)
  ·rw [show carB sh ca=false from kc,if_neg (by simp)]
   go_enter Tryz.func194,Tryz.ntmps194
   go_wp2_with (first | (go_at_call 44;refine (implLedgerFault_any h x a cap hl _ ((HP.out.below FB.out (Nat.le_refl _)).mono FB.out.size)).mono ?_;rw [hk];rintro e w1 ⟨rfl,hb⟩;have F0:=zH (F0.out.below hb F0.out.lt);have F1:=zH (F1.out.below hb F1.out.lt);have FB:=tB FB hb;clear hb;obtain ⟨x0_0,x0_1,x0_2,x0_3,x0_4,x0_5,x0_6,x0_7,x0_8,x0_9,x0_10,x0_11⟩:=F0.out;obtain ⟨g0,g1⟩:=F1.out) | (go_at_call 132;refine (isCar_any _ _ _).mono ?_;rw [kc];rintro e w' ⟨rfl,hw⟩;obtain rfl:=hw.symm;clear hw))
   go_ret
   exact ⟨rfl,FB.out⟩
  ·rw [show carB sh ca=true from kc,if_pos rfl]
   go_enter Tryz.func194,Tryz.ntmps194
   go_wp2_with (first | (go_at_call 44;refine (implLedgerFault_any h x a cap hl _ ((HP.out.below FB.out (Nat.le_refl _)).mono FB.out.size)).mono ?_;rw [hk];rintro e w1 ⟨rfl,hb⟩;have F0:=zH (F0.out.below hb F0.out.lt);have F1:=zH (F1.out.below hb F1.out.lt);have FB:=tB FB hb;clear hb;obtain ⟨x0_0,x0_1,x0_2,x0_3,x0_4,x0_5,x0_6,x0_7,x0_8,x0_9,x0_10,x0_11⟩:=F0.out;obtain ⟨g0,g1⟩:=F1.out) | (go_at_call 132;refine (isCar_any _ _ _).mono ?_;rw [kc];rintro e w' ⟨rfl,hw⟩;obtain rfl:=hw.symm;clear hw))
   go_ret
   exact ⟨rfl,FB.out⟩
 ·rw [if_neg hk]
  have hn:(Hs.led h x != 0)=true:=by simpa using hk
  clear hk
  go_enter Tryz.func194,Tryz.ntmps194
  go_wp2_with (go_at_call 44;refine (implLedgerFault_any h x a cap hl _ ((HP.out.below FB.out (Nat.le_refl _)).mono FB.out.size)).mono ?_;rintro e w1 ⟨rfl,hb⟩;have F0:=zH (F0.out.below hb F0.out.lt);have F1:=zH (F1.out.below hb F1.out.lt);have FB:=tB FB hb;clear hb;obtain ⟨x0_0,x0_1,x0_2,x0_3,x0_4,x0_5,x0_6,x0_7,x0_8,x0_9,x0_10,x0_11⟩:=F0.out;obtain ⟨g0,g1⟩:=F1.out)
  go_ret
  exact ⟨rfl,FB.out⟩
theorem askedStopFault_any(h:Hs)(x:Lg)(sh ca fl:Int)(a:Option Addr)(cap:Nat)(hl:x.ps.length≤1048576)(w:World)(hP:PIn w w.heap.size a x.ps) :
  Calls Tryz.prog 202 #[.agg #[I Z h.fl,I Z h.gp,I Z h.ln,I Z h.rf,I Z h.sp,I Z h.pu,I Z h.br,I Z h.dr,I Z h.lv,I Z h.dO,I Z h.ld,I Z h.qu],.agg #[I Z x.nx,.slice a x.ps.length cap],I Z sh,I Z ca,I Z fl] w fun e w'=>e=.returned (I Z (Hs.askd h x sh ca fl))∧Below w.heap.size w w':=by
 obtain ⟨r,hr⟩:∃ r,Hs.askd h x sh ca fl=r:=⟨_,rfl⟩
 rw [hr]
 obtain ⟨r0,hr0⟩:∃ r0,Hs.askd h x sh ca 0=r0:=⟨_,rfl⟩
 have HR0:=zH hr0
 rw [askd_zero] at hr0
 unfold Hs.askd at hr
 have HP:=zH hP
 have F0:Hid (HAt ((w.alloc (.cells #[I Z h.fl,I Z h.gp,I Z h.ln,I Z h.rf,I Z h.sp,I Z h.pu,I Z h.br,I Z h.dr,I Z h.lv,I Z h.dO,I Z h.ld,I Z h.qu] 31)).alloc (.cells #[I Z x.nx,.slice a x.ps.length cap] 35)) w.heap.size h):=(HAt.new w h _).below ((Below.refl _ _).alloc (Nat.le_refl _) _) (by simp)
 have F1:Hid (LAt ((w.alloc (.cells #[I Z h.fl,I Z h.gp,I Z h.ln,I Z h.rf,I Z h.sp,I Z h.pu,I Z h.br,I Z h.dr,I Z h.lv,I Z h.dO,I Z h.ld,I Z h.qu] 31)).alloc (.cells #[I Z x.nx,.slice a x.ps.length cap] 35)) (w.heap.size + 1) x.nx a x.ps.length cap):=(LW.at_ _ x.nx (.slice a x.ps.length cap) _ _ (by simp)).lat
 have FB:Hid (Below w.heap.size w ((w.alloc (.cells #[I Z h.fl,I Z h.gp,I Z h.ln,I Z h.rf,I Z h.sp,I Z h.pu,I Z h.br,I Z h.dr,I Z h.lv,I Z h.dO,I Z h.ld,I Z h.qu] 31)).alloc (.cells #[I Z x.nx,.slice a x.ps.length cap] 35))):=((Below.refl _ _).alloc (Nat.le_refl _) _).alloc (by simp) _
 clear hP
 by_cases hk:Hs.led h x=0
 ·rw [if_pos hk] at hr hr0
  have oo:=led_fl hk
  have f1:=oo.fl1;have f2:=oo.fl2
  clear oo
  cases kc:carB sh ca
  ·rw [kc,if_neg (by simp)] at hr hr0
   have HR:=zH hr
   subst hr0
   clear hr hk
   go_enter Tryz.func202,Tryz.ntmps202
   go_wp2_with (go_at_call 194;refine (askedCarFault_any h x sh ca a cap hl _ ((HP.out.below FB.out (Nat.le_refl _)).mono FB.out.size)).mono ?_;rw [HR0.out];rintro e w1 ⟨rfl,hb⟩;have F0:=zH (F0.out.below hb F0.out.lt);have F1:=zH (F1.out.below hb F1.out.lt);have FB:=tB FB hb;clear hb;obtain ⟨x0_0,x0_1,x0_2,x0_3,x0_4,x0_5,x0_6,x0_7,x0_8,x0_9,x0_10,x0_11⟩:=F0.out;obtain ⟨g0,g1⟩:=F1.out)
   go_ret
   exact ⟨ret_int HR.out,FB.out⟩
  ·rw [kc,if_pos rfl] at hr0
   subst hr0
   cases i2:inB fl 0 (h.fl - 1)
   ·rw [kc,i2,if_neg (by simp)] at hr
    have HR:=zH hr
    clear hr hk
    go_enter Tryz.func202,Tryz.ntmps202
    go_wp2_with (first | (go_at_call 194;refine (askedCarFault_any h x sh ca a cap hl _ ((HP.out.below FB.out (Nat.le_refl _)).mono FB.out.size)).mono ?_;rw [HR0.out];rintro e w1 ⟨rfl,hb⟩;have F0:=zH (F0.out.below hb F0.out.lt);have F1:=zH (F1.out.below hb F1.out.lt);have FB:=tB FB hb;clear hb;obtain ⟨x0_0,x0_1,x0_2,x0_3,x0_4,x0_5,x0_6,x0_7,x0_8,x0_9,x0_10,x0_11⟩:=F0.out;obtain ⟨g0,g1⟩:=F1.out) | (go_at_call 133;refine (isFloor_any h fl (by omega) (by omega) _).mono ?_;rw [i2];rintro e w2 ⟨rfl,hb⟩;have F0:=zH (F0.out.below hb F0.out.lt);have F1:=zH (F1.out.below hb F1.out.lt);have FB:=tB FB hb;clear hb;obtain ⟨x0_0,x0_1,x0_2,x0_3,x0_4,x0_5,x0_6,x0_7,x0_8,x0_9,x0_10,x0_11⟩:=F0.out;obtain ⟨g0,g1⟩:=F1.out))
    go_ret
    exact ⟨ret_int HR.out,FB.out⟩
   ·rw [kc,i2,if_pos ⟨rfl,rfl⟩] at hr
    have HR:=zH hr
    clear hr hk
    go_enter Tryz.func202,Tryz.ntmps202
    go_wp2_with (first | (go_at_call 194;refine (askedCarFault_any h x sh ca a cap hl _ ((HP.out.below FB.out (Nat.le_refl _)).mono FB.out.size)).mono ?_;rw [HR0.out];rintro e w1 ⟨rfl,hb⟩;have F0:=zH (F0.out.below hb F0.out.lt);have F1:=zH (F1.out.below hb F1.out.lt);have FB:=tB FB hb;clear hb;obtain ⟨x0_0,x0_1,x0_2,x0_3,x0_4,x0_5,x0_6,x0_7,x0_8,x0_9,x0_10,x0_11⟩:=F0.out;obtain ⟨g0,g1⟩:=F1.out) | (go_at_call 133;refine (isFloor_any h fl (by omega) (by omega) _).mono ?_;rw [i2];rintro e w2 ⟨rfl,hb⟩;have F0:=zH (F0.out.below hb F0.out.lt);have F1:=zH (F1.out.below hb F1.out.lt);have FB:=tB FB hb;clear hb;obtain ⟨x0_0,x0_1,x0_2,x0_3,x0_4,x0_5,x0_6,x0_7,x0_8,x0_9,x0_10,x0_11⟩:=F0.out;obtain ⟨g0,g1⟩:=F1.out))
    go_ret
    exact ⟨ret_int HR.out,FB.out⟩
 ·rw [if_neg hk] at hr hr0
  have HR:Hid (r0=r):=hr0.symm.trans hr
  have hn:(r0 != 0)=true:=by rw [← hr0];simpa using hk
  clear hk hr hr0
  go_enter Tryz.func202,Tryz.ntmps202
  go_wp2_with (go_at_call 194;refine (askedCarFault_any h x sh ca a cap hl _ ((HP.out.below FB.out (Nat.le_refl _)).mono FB.out.size)).mono ?_;rw [HR0.out];rintro e w1 ⟨rfl,hb⟩;have F0:=zH (F0.out.below hb F0.out.lt);have F1:=zH (F1.out.below hb F1.out.lt);have FB:=tB FB hb;clear hb;obtain ⟨x0_0,x0_1,x0_2,x0_3,x0_4,x0_5,x0_6,x0_7,x0_8,x0_9,x0_10,x0_11⟩:=F0.out;obtain ⟨g0,g1⟩:=F1.out)
  go_ret
  exact ⟨ret_int HR.out,FB.out⟩
end Go.Proofs.YteimojoicfjdjaaGreat
