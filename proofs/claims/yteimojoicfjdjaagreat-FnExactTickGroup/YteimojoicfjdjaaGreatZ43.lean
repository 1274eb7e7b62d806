/- Parts of the proof: LedJ. -/
import Derived.Test.YteimojoicfjdjaaGreatZ30
import Derived.Test.YteimojoicfjdjaaGreatZ41
import Derived.BigGuardPart
namespace Go.Proofs.YteimojoicfjdjaaGreat
set_option maxRecDepth 20000
set_option maxHeartbeats 16000000
open Value renaming int → I
open IntKind renaming i64 → Z
open Go.RowKit Pl
set_option linter.unusedSimpArgs false
set_option linter.unusedVariables false
theorem askd_led{h:Hs}{x:Lg}{sh ca fl:Int}(hk:Hs.askd h x sh ca fl=0):Hs.led h x=0:=by
 unfold Hs.askd at hk
 split at hk
 ·assumption
 ·exact hk
theorem askd_car{h:Hs}{x:Lg}{sh ca fl:Int}(hk:Hs.askd h x sh ca fl=0):0≤sh∧sh≤2∧0≤ca∧ca≤1:=by
 unfold Hs.askd at hk
 split at hk
 case isFalse q=>exact absurd hk q
 split at hk
 case isFalse=>omega
 case isTrue q=>
  have:=q.1
  unfold carB at this
  simp only [Bool.and_eq_true,inB_iff] at this
  exact ⟨this.1.1,this.1.2,this.2.1,this.2.2⟩
theorem skip_true{sh ca:Int}{p:Pe}(k1:isW 1 sh ca p=false)(k0:isW 0 sh ca p=false):skipB false sh ca p=true:=by
 unfold isW at k1 k0
 unfold skipB act
 cases a:(p.sh == sh) <;> cases b:(p.ca == ca) <;> cases c:(p.st == 0) <;> cases d:(p.st == 1) <;> simp_all [bne]
theorem skip_false{sh ca:Int}{p:Pe}(k1:isW 1 sh ca p=false):skipB true sh ca p=true:=by
 unfold isW at k1
 unfold skipB act
 cases a:(p.sh == sh) <;> cases b:(p.ca == ca) <;> cases c:(p.st == 0) <;> cases d:(p.st == 1) <;> simp_all [bne]
theorem needOf_true(h:Hs)(x:Lg)(sh ca:Int)(a:Option Addr)(cap:Nat)(hl:x.ps.length≤1048576)(hk:Hs.askd h x sh ca 0=0)(r:Int × Int × Int)(hr:needR (need false sh ca x.ps)=r)(hroom:decide (((riders sh ca x.ps).length:Int) < h.ld)=true)(w:World)(hP:PIn w w.heap.size a x.ps) :
  Calls Tryz.prog 174 #[.agg #[I Z h.fl,I Z h.gp,I Z h.ln,I Z h.rf,I Z h.sp,I Z h.pu,I Z h.br,I Z h.dr,I Z h.lv,I Z h.dO,I Z h.ld,I Z h.qu],.agg #[I Z x.nx,.slice a x.ps.length cap],I Z sh,I Z ca] w fun e w'=>e=.returned (.agg #[I Z r.1,I Z r.2.1,I Z r.2.2])∧Below w.heap.size w w':=by
 have HP:=zH hP
 have HR:=zH hr
 have oo:=led_fl (askd_led hk)
 have d1:=oo.ld1;have d2:=oo.ld2
 clear hP hr oo
 go_enter Tryz.func174,Tryz.ntmps174
 go_upto_region 1 with fail
 obtain ⟨W0,hW0⟩:∃ W0,W0=(((w.alloc (.cells #[I Z h.fl,I Z h.gp,I Z h.ln,I Z h.rf,I Z h.sp,I Z h.pu,I Z h.br,I Z h.dr,I Z h.lv,I Z h.dO,I Z h.ld,I Z h.qu] 31)).alloc (.cells #[I Z x.nx,.slice a x.ps.length cap] 35)).alloc (.cells #[I Z 0,I Z 0,I Z 0] 97)):=⟨_,rfl⟩
 have F0:Hid (HAt W0 w.heap.size h):=by rw [hW0];exact ((HAt.at_ w h _ _ rfl).alloc _).alloc _
 have F1:Hid (LW W0 (w.heap.size + 1) x.nx (.slice a x.ps.length cap)):=by rw [hW0];exact (LW.at_ _ x.nx (.slice a x.ps.length cap) _ _ (by simp)).alloc _
 have F2:Hid (R3 W0 (w.heap.size + 2)):=by rw [hW0];exact R3.at_ _ _ _ (by simp)
 have FB:Hid (Below w.heap.size w W0):=by rw [hW0];exact (((Below.refl _ _).alloc (Nat.le_refl _) _).alloc (by simp) _).alloc (by simp;omega) _
 rw [← hW0]
 clear hW0
 obtain ⟨x0_0,x0_1,x0_2,x0_3,x0_4,x0_5,x0_6,x0_7,x0_8,x0_9,x0_10,x0_11⟩:=F0.out
 obtain ⟨x1_0,x1_1,y1_0,y1_1⟩:=F1.out
 go_wp2_with (first | (go_at_call 194;refine (askedCarFault_any h x sh ca a cap hl _ ((HP.out.below FB.out (Nat.le_refl _)).mono FB.out.size)).mono ?_;rw [hk];rintro e w1 ⟨rfl,hb⟩;have F0:=zH (F0.out.below hb F0.out.lt);have F1:=zH (F1.out.below hb F1.out.lt);have F2:=zH (F2.out.below hb F2.out.lt);have FB:=tB FB hb;clear hb;obtain ⟨x0_0,x0_1,x0_2,x0_3,x0_4,x0_5,x0_6,x0_7,x0_8,x0_9,x0_10,x0_11⟩:=F0.out;obtain ⟨x1_0,x1_1,y1_0,y1_1⟩:=F1.out) | (go_at_call 195;refine (freePlaces_any h (by omega) d2 x.ps a cap sh ca hl _ ((HP.out.below FB.out (Nat.le_refl _)).mono FB.out.size)).mono ?_;rintro e w2 ⟨rfl,hb⟩;have F0:=zH (F0.out.below hb F0.out.lt);have F1:=zH (F1.out.below hb F1.out.lt);have F2:=zH (F2.out.below hb F2.out.lt);have FB:=tB FB hb;clear hb;obtain ⟨x0_0,x0_1,x0_2,x0_3,x0_4,x0_5,x0_6,x0_7,x0_8,x0_9,x0_10,x0_11⟩:=F0.out;obtain ⟨x1_0,x1_1,y1_0,y1_1⟩:=F1.out))
 go_loopw [32] (fun ii wr=>∃ i:Nat,ii=I Z i∧i≤x.ps.length∧need false sh ca x.ps=need false sh ca (x.ps.drop i)∧R3 wr (w.heap.size + 2)∧Below w.heap.size w wr) (fun ii _=>x.ps.length - (intOf ii).toNat)
 case atStart=>exact ⟨0,rfl,by omega,by rw [List.drop_zero],F2.out,FB.out⟩
 case round=>
  obtain ⟨i,rfl,hi,hn,h2,hb⟩:=hrel
  clear F0 F1 F2 FB
  have HN:=zH hn
  have F2:=zH h2
  have FB:=zH hb
  clear hn h2 hb
  by_cases hlt:i < x.ps.length
  ·obtain ⟨p,hp⟩:∃ p,x.ps[i]? = some p:=⟨_,List.getElem?_eq_getElem hlt⟩
   have H0:=zH hp
   rcases HP.out with hz | ⟨b,o,ha,hbl,h7⟩
   ·rw [hz] at hlt;simp at hlt
   obtain ⟨c0,c1,c2,c3,c4,c5,c6⟩:=(h7 i p hp).below FB.out hbl
   subst ha
   clear h7 hp
   go_upto_region 8 with fail
   obtain ⟨pb,hpb⟩:∃ pb,pb=wr.heap.size:=⟨_,rfl⟩
   obtain ⟨W2,hW2⟩:∃ W2,W2=wr.alloc (.cells #[I Z p.id,I Z p.fr,I Z p.tw,I Z p.sh,I Z p.ca,I Z p.st,I Z p.pl] 79):=⟨_,rfl⟩
   have F2:Hid (R3 W2 (w.heap.size + 2)):=by rw [hW2];exact F2.out.alloc _
   have FB:Hid (Below w.heap.size w W2):=by rw [hW2];exact FB.out.alloc FB.out.size _
   have F3:Hid (P7 W2 pb 0 p):=by rw [hW2];exact P7.at_ wr p _ _ hpb
   rw [← hW2]
   clear hW2
   rw [← hpb]
   clear hpb c0 c1 c2 c3 c4 c5 c6
   obtain ⟨z0,z1,z2,z3,z4,z5,z6⟩:=F3.out
   cases k1:isW 1 sh ca p
   ·cases k0:isW 0 sh ca p
    ·have HE:Hid (need false sh ca (x.ps.drop i)=need false sh ca (x.ps.drop (i + 1))):=by
      rw [need_at H0.out,if_pos (skip_true k1 k0)]
      exact rfl
     go_wp2_with (first | ((fail_if_success have:=k9);go_at_call 196;refine (isWith_any p 1 sh ca _).mono ?_;rw [k1];rintro e w4 ⟨rfl,hb⟩;have F2:=zH (F2.out.below hb F2.out.lt);have FB:=tB FB hb;have F3:=zH (F3.out.below hb F3.out.lt);clear hb;obtain ⟨z0,z1,z2,z3,z4,z5,z6⟩:=F3.out;have k9:=True.intro) | (go_at_call 196;refine (isWith_any p 0 sh ca _).mono ?_;rw [k0];rintro e w3 ⟨rfl,hb⟩;have F2:=zH (F2.out.below hb F2.out.lt);have FB:=tB FB hb;have F3:=zH (F3.out.below hb F3.out.lt);clear hb;obtain ⟨z0,z1,z2,z3,z4,z5,z6⟩:=F3.out))
     go_roundw
     case rel=>exact ⟨i + 1,by simp,by omega,HN.out.trans HE.out,F2.out,FB.out⟩
     case measure=>simp [intOf];omega
    ·have q:(p.st=0∧p.sh=sh)∧p.ca=ca:=by
      have z:=k0
      unfold isW at z
      simpa only [Bool.and_eq_true,beq_iff_eq] using z
     have q1:=q.1.1;have q2:=q.1.2;have q3:=q.2
     have HE:Hid (need false sh ca (x.ps.drop i)=some (p.id,p.fr)):=by
      rw [need_at H0.out,if_neg (by simp [skipB,act, *])]
      simp [q.1.1]
      try exact trivial
     have HV:Hid (Ending.returned (.agg #[I Z 0,I Z p.id,I Z p.fr])=.returned (.agg #[I Z r.1,I Z r.2.1,I Z r.2.2])):=by
      have z:=HR.out
      rw [HN.out,HE.out] at z
      rw [← z]
      exact rfl
     clear q q1 q2 q3
     go_upto_region 11 with (first | ((fail_if_success have:=k9);go_at_call 196;refine (isWith_any p 1 sh ca _).mono ?_;rw [k1];rintro e w4 ⟨rfl,hb⟩;have F2:=zH (F2.out.below hb F2.out.lt);have FB:=tB FB hb;have F3:=zH (F3.out.below hb F3.out.lt);clear hb;obtain ⟨z0,z1,z2,z3,z4,z5,z6⟩:=F3.out;have k9:=True.intro) | (go_at_call 196;refine (isWith_any p 0 sh ca _).mono ?_;rw [k0];rintro e w3 ⟨rfl,hb⟩;have F2:=zH (F2.out.below hb F2.out.lt);have FB:=tB FB hb;have F3:=zH (F3.out.below hb F3.out.lt);clear hb;obtain ⟨z0,z1,z2,z3,z4,z5,z6⟩:=F3.out))
     obtain ⟨x2_0,x2_1,x2_2,y2_0,y2_1,y2_2⟩:=F2.out
     go_wp2_with fail
     exact bodyPost_ret (v:=.agg #[I Z 0,I Z p.id,I Z p.fr]) (by simp [results,Tryz.results174,go_sem,x2_0,x2_1,x2_2]) rfl ⟨HV.out,by repeat (first | exact FB.out | (refine Below.setCell ?_ (by simp <;> omega) _))⟩
   ·have q:(p.st=1∧p.sh=sh)∧p.ca=ca:=by
     have z:=k1
     unfold isW at z
     simpa only [Bool.and_eq_true,beq_iff_eq] using z
    have q1:=q.1.1;have q2:=q.1.2;have q3:=q.2
    have HE:Hid (need false sh ca (x.ps.drop i)=some (p.id,p.tw)):=by
     rw [need_at H0.out,if_neg (by simp [skipB,act, *])]
     simp [q.1.1]
     try exact trivial
    have HV:Hid (Ending.returned (.agg #[I Z 0,I Z p.id,I Z p.tw])=.returned (.agg #[I Z r.1,I Z r.2.1,I Z r.2.2])):=by
     have z:=HR.out
     rw [HN.out,HE.out] at z
     rw [← z]
     exact rfl
    clear q q1 q2 q3
    go_upto_region 9 with (go_at_call 196;refine (isWith_any p 1 sh ca _).mono ?_;rw [k1];rintro e w4 ⟨rfl,hb⟩;have F2:=zH (F2.out.below hb F2.out.lt);have FB:=tB FB hb;have F3:=zH (F3.out.below hb F3.out.lt);clear hb;obtain ⟨z0,z1,z2,z3,z4,z5,z6⟩:=F3.out)
    obtain ⟨x2_0,x2_1,x2_2,y2_0,y2_1,y2_2⟩:=F2.out
    go_wp2_with fail
    exact bodyPost_ret (v:=.agg #[I Z 0,I Z p.id,I Z p.tw]) (by simp [results,Tryz.results174,go_sem,x2_0,x2_1,x2_2]) rfl ⟨HV.out,by repeat (first | exact FB.out | (refine Below.setCell ?_ (by simp <;> omega) _))⟩
  ·have ei:i=x.ps.length:=by omega
   subst ei
   have HV:Hid (Ending.returned (.agg #[I Z 4,I Z 0,I Z 0])=.returned (.agg #[I Z r.1,I Z r.2.1,I Z r.2.2])):=by
    have z:=HR.out
    rw [HN.out,List.drop_length] at z
    rw [← z]
    exact rfl
   obtain ⟨x2_0,x2_1,x2_2,y2_0,y2_1,y2_2⟩:=F2.out
   go_wp2_with fail
   exact bodyPost_ret (v:=.agg #[I Z 4,I Z 0,I Z 0]) (by simp [results,Tryz.results174,go_sem,x2_0,x2_1,x2_2]) rfl ⟨HV.out,by repeat (first | exact FB.out | (refine Below.setCell ?_ (by simp <;> omega) _))⟩
theorem needOf_false(h:Hs)(x:Lg)(sh ca:Int)(a:Option Addr)(cap:Nat)(hl:x.ps.length≤1048576)(hk:Hs.askd h x sh ca 0=0)(r:Int × Int × Int)(hr:needR (need true sh ca x.ps)=r)(hroom:decide (((riders sh ca x.ps).length:Int) < h.ld)=false)(w:World)(hP:PIn w w.heap.size a x.ps) :
  Calls Tryz.prog 174 #[.agg #[I Z h.fl,I Z h.gp,I Z h.ln,I Z h.rf,I Z h.sp,I Z h.pu,I Z h.br,I Z h.dr,I Z h.lv,I Z h.dO,I Z h.ld,I Z h.qu],.agg #[I Z x.nx,.slice a x.ps.length cap],I Z sh,I Z ca] w fun e w'=>e=.returned (.agg #[I Z r.1,I Z r.2.1,I Z r.2.2])∧Below w.heap.size w w':=by
 have HP:=zH hP
 have HR:=zH hr
 have oo:=led_fl (askd_led hk)
 have d1:=oo.ld1;have d2:=oo.ld2
 clear hP hr oo
 go_enter Tryz.func174,Tryz.ntmps174
 go_upto_region 1 with fail
 obtain ⟨W0,hW0⟩:∃ W0,W0=(((w.alloc (.cells #[I Z h.fl,I Z h.gp,I Z h.ln,I Z h.rf,I Z h.sp,I Z h.pu,I Z h.br,I Z h.dr,I Z h.lv,I Z h.dO,I Z h.ld,I Z h.qu] 31)).alloc (.cells #[I Z x.nx,.slice a x.ps.length cap] 35)).alloc (.cells #[I Z 0,I Z 0,I Z 0] 97)):=⟨_,rfl⟩
 have F0:Hid (HAt W0 w.heap.size h):=by rw [hW0];exact ((HAt.at_ w h _ _ rfl).alloc _).alloc _
 have F1:Hid (LW W0 (w.heap.size + 1) x.nx (.slice a x.ps.length cap)):=by rw [hW0];exact (LW.at_ _ x.nx (.slice a x.ps.length cap) _ _ (by simp)).alloc _
 have F2:Hid (R3 W0 (w.heap.size + 2)):=by rw [hW0];exact R3.at_ _ _ _ (by simp)
 have FB:Hid (Below w.heap.size w W0):=by rw [hW0];exact (((Below.refl _ _).alloc (Nat.le_refl _) _).alloc (by simp) _).alloc (by simp;omega) _
 rw [← hW0]
 clear hW0
 obtain ⟨x0_0,x0_1,x0_2,x0_3,x0_4,x0_5,x0_6,x0_7,x0_8,x0_9,x0_10,x0_11⟩:=F0.out
 obtain ⟨x1_0,x1_1,y1_0,y1_1⟩:=F1.out
 go_wp2_with (first | (go_at_call 194;refine (askedCarFault_any h x sh ca a cap hl _ ((HP.out.below FB.out (Nat.le_refl _)).mono FB.out.size)).mono ?_;rw [hk];rintro e w1 ⟨rfl,hb⟩;have F0:=zH (F0.out.below hb F0.out.lt);have F1:=zH (F1.out.below hb F1.out.lt);have F2:=zH (F2.out.below hb F2.out.lt);have FB:=tB FB hb;clear hb;obtain ⟨x0_0,x0_1,x0_2,x0_3,x0_4,x0_5,x0_6,x0_7,x0_8,x0_9,x0_10,x0_11⟩:=F0.out;obtain ⟨x1_0,x1_1,y1_0,y1_1⟩:=F1.out) | (go_at_call 195;refine (freePlaces_any h (by omega) d2 x.ps a cap sh ca hl _ ((HP.out.below FB.out (Nat.le_refl _)).mono FB.out.size)).mono ?_;rintro e w2 ⟨rfl,hb⟩;have F0:=zH (F0.out.below hb F0.out.lt);have F1:=zH (F1.out.below hb F1.out.lt);have F2:=zH (F2.out.below hb F2.out.lt);have FB:=tB FB hb;clear hb;obtain ⟨x0_0,x0_1,x0_2,x0_3,x0_4,x0_5,x0_6,x0_7,x0_8,x0_9,x0_10,x0_11⟩:=F0.out;obtain ⟨x1_0,x1_1,y1_0,y1_1⟩:=F1.out))
 go_loopw [32] (fun ii wr=>∃ i:Nat,ii=I Z i∧i≤x.ps.length∧need true sh ca x.ps=need true sh ca (x.ps.drop i)∧R3 wr (w.heap.size + 2)∧Below w.heap.size w wr) (fun ii _=>x.ps.length - (intOf ii).toNat)
 case atStart=>exact ⟨0,rfl,by omega,by rw [List.drop_zero],F2.out,FB.out⟩
 case round=>
  obtain ⟨i,rfl,hi,hn,h2,hb⟩:=hrel
  clear F0 F1 F2 FB
  have HN:=zH hn
  have F2:=zH h2
  have FB:=zH hb
  clear hn h2 hb
  by_cases hlt:i < x.ps.length
  ·obtain ⟨p,hp⟩:∃ p,x.ps[i]? = some p:=⟨_,List.getElem?_eq_getElem hlt⟩
   have H0:=zH hp
   rcases HP.out with hz | ⟨b,o,ha,hbl,h7⟩
   ·rw [hz] at hlt;simp at hlt
   obtain ⟨c0,c1,c2,c3,c4,c5,c6⟩:=(h7 i p hp).below FB.out hbl
   subst ha
   clear h7 hp
   go_upto_region 8 with fail
   obtain ⟨pb,hpb⟩:∃ pb,pb=wr.heap.size:=⟨_,rfl⟩
   obtain ⟨W2,hW2⟩:∃ W2,W2=wr.alloc (.cells #[I Z p.id,I Z p.fr,I Z p.tw,I Z p.sh,I Z p.ca,I Z p.st,I Z p.pl] 79):=⟨_,rfl⟩
   have F2:Hid (R3 W2 (w.heap.size + 2)):=by rw [hW2];exact F2.out.alloc _
   have FB:Hid (Below w.heap.size w W2):=by rw [hW2];exact FB.out.alloc FB.out.size _
   have F3:Hid (P7 W2 pb 0 p):=by rw [hW2];exact P7.at_ wr p _ _ hpb
   rw [← hW2]
   clear hW2
   rw [← hpb]
   clear hpb c0 c1 c2 c3 c4 c5 c6
   obtain ⟨z0,z1,z2,z3,z4,z5,z6⟩:=F3.out
   cases k1:isW 1 sh ca p
   ·have HE:Hid (need true sh ca (x.ps.drop i)=need true sh ca (x.ps.drop (i + 1))):=by
     rw [need_at H0.out,if_pos (skip_false k1)]
     exact rfl
    go_wp2_with (go_at_call 196;refine (isWith_any p 1 sh ca _).mono ?_;rw [k1];rintro e w4 ⟨rfl,hb⟩;have F2:=zH (F2.out.below hb F2.out.lt);have FB:=tB FB hb;have F3:=zH (F3.out.below hb F3.out.lt);clear hb;obtain ⟨z0,z1,z2,z3,z4,z5,z6⟩:=F3.out)
    go_roundw
    case rel=>exact ⟨i + 1,by simp,by omega,HN.out.trans HE.out,F2.out,FB.out⟩
    case measure=>simp [intOf];omega
   ·have q:(p.st=1∧p.sh=sh)∧p.ca=ca:=by
     have z:=k1
     unfold isW at z
     simpa only [Bool.and_eq_true,beq_iff_eq] using z
    have q1:=q.1.1;have q2:=q.1.2;have q3:=q.2
    have HE:Hid (need true sh ca (x.ps.drop i)=some (p.id,p.tw)):=by
     rw [need_at H0.out,if_neg (by simp [skipB,act, *])]
     simp [q.1.1]
     try exact trivial
    have HV:Hid (Ending.returned (.agg #[I Z 0,I Z p.id,I Z p.tw])=.returned (.agg #[I Z r.1,I Z r.2.1,I Z r.2.2])):=by
     have z:=HR.out
     rw [HN.out,HE.out] at z
     rw [← z]
     exact rfl
    clear q q1 q2 q3
    go_upto_region 9 with (go_at_call 196;refine (isWith_any p 1 sh ca _).mono ?_;rw [k1];rintro e w4 ⟨rfl,hb⟩;have F2:=zH (F2.out.below hb F2.out.lt);have FB:=tB FB hb;have F3:=zH (F3.out.below hb F3.out.lt);clear hb;obtain ⟨z0,z1,z2,z3,z4,z5,z6⟩:=F3.out)
    obtain ⟨x2_0,x2_1,x2_2,y2_0,y2_1,y2_2⟩:=F2.out
    go_wp2_with fail
    exact bodyPost_ret (v:=.agg #[I Z 0,I Z p.id,I Z p.tw]) (by simp [results,Tryz.results174,go_sem,x2_0,x2_1,x2_2]) rfl ⟨HV.out,by repeat (first | exact FB.out | (refine Below.setCell ?_ (by simp <;> omega) _))⟩
  ·have ei:i=x.ps.length:=by omega
   subst ei
   have HV:Hid (Ending.returned (.agg #[I Z 4,I Z 0,I Z 0])=.returned (.agg #[I Z r.1,I Z r.2.1,I Z r.2.2])):=by
    have z:=HR.out
    rw [HN.out,List.drop_length] at z
    rw [← z]
    exact rfl
   obtain ⟨x2_0,x2_1,x2_2,y2_0,y2_1,y2_2⟩:=F2.out
   go_wp2_with fail
   exact bodyPost_ret (v:=.agg #[I Z 4,I Z 0,I Z 0]) (by simp [results,Tryz.results174,go_sem,x2_0,x2_1,x2_2]) rfl ⟨HV.out,by repeat (first | exact FB.out | (refine Below.setCell ?_ (by simp <;> omega) _))⟩
theorem implNeedOf_any(h:Hs)(x:Lg)(sh ca:Int)(a:Option Addr)(cap:Nat)(hl:x.ps.length≤1048576)(w:World)(hP:PIn w w.heap.size a x.ps) :
  Calls Tryz.prog 174 #[.agg #[I Z h.fl,I Z h.gp,I Z h.ln,I Z h.rf,I Z h.sp,I Z h.pu,I Z h.br,I Z h.dr,I Z h.lv,I Z h.dO,I Z h.ld,I Z h.qu],.agg #[I Z x.nx,.slice a x.ps.length cap],I Z sh,I Z ca] w fun e w'=>e=.returned (.agg #[I Z (Hs.needK h x sh ca).1,I Z (Hs.needK h x sh ca).2.1,I Z (Hs.needK h x sh ca).2.2])∧Below w.heap.size w w':=by
 by_cases hk:Hs.askd h x sh ca 0=0
 ·have s1:=(askd_car hk).1
  by_cases c:h.ld≤(cnt 1 sh ca x.ps:Int)
  ·refine needOf_false h x sh ca a cap hl hk _ ?_ (decide_eq_false (by rw [riders_cnt s1];omega)) w hP
   unfold Hs.needK Hs.need
   rw [if_pos hk,decide_eq_true c]
  ·refine needOf_true h x sh ca a cap hl hk _ ?_ (decide_eq_true (by rw [riders_cnt s1];omega)) w hP
   unfold Hs.needK Hs.need
   rw [if_pos hk,decide_eq_false c]
 ·have q:Hs.needK h x sh ca=(Hs.askd h x sh ca 0,0,0):=by unfold Hs.needK;rw [if_neg hk]
  rw [q]
  have HP:=zH hP
  have hn:(Hs.askd h x sh ca 0 != 0)=true:=by simpa using hk
  clear q hk hP
  go_enter Tryz.func174,Tryz.ntmps174
  go_upto_region 1 with fail
  obtain ⟨W0,hW0⟩:∃ W0,W0=(((w.alloc (.cells #[I Z h.fl,I Z h.gp,I Z h.ln,I Z h.rf,I Z h.sp,I Z h.pu,I Z h.br,I Z h.dr,I Z h.lv,I Z h.dO,I Z h.ld,I Z h.qu] 31)).alloc (.cells #[I Z x.nx,.slice a x.ps.length cap] 35)).alloc (.cells #[I Z 0,I Z 0,I Z 0] 97)):=⟨_,rfl⟩
  have F0:Hid (HAt W0 w.heap.size h):=by rw [hW0];exact ((HAt.at_ w h _ _ rfl).alloc _).alloc _
  have F1:Hid (LW W0 (w.heap.size + 1) x.nx (.slice a x.ps.length cap)):=by rw [hW0];exact (LW.at_ _ x.nx (.slice a x.ps.length cap) _ _ (by simp)).alloc _
  have F2:Hid (R3 W0 (w.heap.size + 2)):=by rw [hW0];exact R3.at_ _ _ _ (by simp)
  have FB:Hid (Below w.heap.size w W0):=by rw [hW0];exact (((Below.refl _ _).alloc (Nat.le_refl _) _).alloc (by simp) _).alloc (by simp;omega) _
  rw [← hW0]
  clear hW0
  obtain ⟨x0_0,x0_1,x0_2,x0_3,x0_4,x0_5,x0_6,x0_7,x0_8,x0_9,x0_10,x0_11⟩:=F0.out
  obtain ⟨x1_0,x1_1,y1_0,y1_1⟩:=F1.out
  go_upto_region 3 with (go_at_call 194;refine (askedCarFault_any h x sh ca a cap hl _ ((HP.out.below FB.out (Nat.le_refl _)).mono FB.out.size)).mono ?_;  rintro e w1 ⟨rfl,hb⟩;have F0:=zH (F0.out.below hb F0.out.lt);have F1:=zH (F1.out.below hb F1.out.lt);have F2:=zH (F2.out.below hb F2.out.lt);have FB:=tB FB hb;clear hb;obtain ⟨x0_0,x0_1,x0_2,x0_3,x0_4,x0_5,x0_6,x0_7,x0_8,x0_9,x0_10,x0_11⟩:=F0.out;obtain ⟨x1_0,x1_1,y1_0,y1_1⟩:=F1.out)
  obtain ⟨x2_0,x2_1,x2_2,y2_0,y2_1,y2_2⟩:=F2.out
  go_wp2_with fail
  exact bodyPost_ret (v:=.agg #[I Z (Hs.askd h x sh ca 0),I Z 0,I Z 0]) (by simp [results,Tryz.results174,go_sem,x2_0,x2_1,x2_2]) rfl ⟨rfl,by repeat (first | exact FB.out | (refine Below.setCell ?_ (by simp <;> omega) _))⟩
end Go.Proofs.YteimojoicfjdjaaGreat
