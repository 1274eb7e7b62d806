/- Parts of the proof: PersKo. -/
import Derived.Test.YteimojoicfjdjaaGreatZ18
import Derived.Test.YteimojoicfjdjaaGreatZ21
import Derived.Deep.RegionHeld3
import Derived.BigGuardPart
namespace Go.Proofs.YteimojoicfjdjaaGreat
set_option maxRecDepth 20000
set_option maxHeartbeats 16000000
open Value renaming int → I
open IntKind renaming i64 → Z
open Go.RowKit Pl
set_option linter.unusedSimpArgs false
set_option linter.unusedVariables false
theorem l7Need_falseO(h:Hs)(lb lo:Nat)(nx:Int)(a:Option Addr)(cap:Nat)(l:List Pe)(sh ca:Int)(hl:l.length≤1048576)(r:Int × Int × Int)(hfl:decide (h.ld≤(cnt 1 sh ca l:Int))=false)(hr:needR (need false sh ca l)=r)(w:World)(hL:LAo w lb lo nx a l.length cap)(hP:PIn w w.heap.size a l) :
  Calls Tryz.prog 108 #[.agg #[I Z h.fl,I Z h.gp,I Z h.ln,I Z h.rf,I Z h.sp,I Z h.pu,I Z h.br,I Z h.dr,I Z h.lv,I Z h.dO,I Z h.ld,I Z h.qu],.pointer (some ⟨lb,lo,none⟩),I Z sh,I Z ca] w fun e w'=>e=.returned (.agg #[I Z r.1,I Z r.2.1,I Z r.2.2])∧Below w.heap.size w w':=by
 have HR:=zH hr
 have HP:=zH hP
 have F0:Hid (HAt ((w.alloc (.cells #[I Z h.fl,I Z h.gp,I Z h.ln,I Z h.rf,I Z h.sp,I Z h.pu,I Z h.br,I Z h.dr,I Z h.lv,I Z h.dO,I Z h.ld,I Z h.qu] 31)).alloc (.cells #[I Z 0,I Z 0,I Z 0] 97)) w.heap.size h):=(HAt.new w h _).below ((Below.refl _ _).alloc (Nat.le_refl _) _) (by simp)
 have F1:Hid (R3 ((w.alloc (.cells #[I Z h.fl,I Z h.gp,I Z h.ln,I Z h.rf,I Z h.sp,I Z h.pu,I Z h.br,I Z h.dr,I Z h.lv,I Z h.dO,I Z h.ld,I Z h.qu] 31)).alloc (.cells #[I Z 0,I Z 0,I Z 0] 97)) (w.heap.size + 1)):=R3.at_ _ _ _ (by simp)
 have FB:Hid (Below w.heap.size w ((w.alloc (.cells #[I Z h.fl,I Z h.gp,I Z h.ln,I Z h.rf,I Z h.sp,I Z h.pu,I Z h.br,I Z h.dr,I Z h.lv,I Z h.dO,I Z h.ld,I Z h.qu] 31)).alloc (.cells #[I Z 0,I Z 0,I Z 0] 97))):=((Below.refl _ _).alloc (Nat.le_refl _) _).alloc (by simp) _
 have F2:Hid (LAo ((w.alloc (.cells #[I Z h.fl,I Z h.gp,I Z h.ln,I Z h.rf,I Z h.sp,I Z h.pu,I Z h.br,I Z h.dr,I Z h.lv,I Z h.dO,I Z h.ld,I Z h.qu] 31)).alloc (.cells #[I Z 0,I Z 0,I Z 0] 97)) lb lo nx a l.length cap):=hL.below FB.out hL.lt
 have hlb:=hL.lt
 have HL:=zH hL
 obtain ⟨W0,hW0⟩:∃ W0,W0=((w.alloc (.cells #[I Z h.fl,I Z h.gp,I Z h.ln,I Z h.rf,I Z h.sp,I Z h.pu,I Z h.br,I Z h.dr,I Z h.lv,I Z h.dO,I Z h.ld,I Z h.qu] 31)).alloc (.cells #[I Z 0,I Z 0,I Z 0] 97)):=⟨_,rfl⟩
 rw [← hW0] at F0 F1 F2 FB
 have HW0:=zH hW0
 clear hW0 hr hL hP
 go_enter Tryz.func108,Tryz.ntmps108
 go_upto_region 1 with fail
 rw [← HW0.out]
 clear HW0
 have F0:=zH (F0.out.below (Below.refl _ _).drew F0.out.lt)
 have F1:=zH (F1.out.below (Below.refl _ _).drew F1.out.lt)
 have F2:=zH (F2.out.below (Below.refl _ _).drew F2.out.lt)
 have FB:=zH (FB.out.drew)
 obtain ⟨x0_0,x0_1,x0_2,x0_3,x0_4,x0_5,x0_6,x0_7,x0_8,x0_9,x0_10,x0_11⟩:=F0.out
 refine wp_region_held_drew (S:=(fun w''=>hS w.heap.size h w'')) (by kernel_rfl) (by ((try dsimp only);(try simp only [hS]);first | ((repeat' apply And.intro) <;> assumption) | go_keep)) (fun hHeld=>?_)
 obtain ⟨v_1,hw1⟩:∃ v_1,v_1=W0.drew:=⟨_,rfl⟩
 rw [← hw1] at F0 F1 F2 FB hHeld ⊢
 clear hw1
 obtain ⟨x0_0,x0_1,x0_2,x0_3,x0_4,x0_5,x0_6,x0_7,x0_8,x0_9,x0_10,x0_11⟩:=F0.out
 refine tkz 0 rfl ?_
 refine tkz 1 rfl ?_
 refine tkz 2 rfl ?_
 refine tkz 4 rfl ?_
 refine tkz 5 rfl ?_
 refine rd1 3 (fun K hK=>?_)
 go_simp
 refine (l7Count_anyO lb lo nx a cap l 1 sh ca hl _ F2.out ((HP.out.below FB.out (Nat.le_refl _)).mono FB.out.size)).mono ?_
 rintro e v_2 ⟨rfl,hb⟩
 have F0:=zH (F0.out.below hb F0.out.lt)
 have F1:=zH (F1.out.below hb F1.out.lt)
 have F2:=zH (F2.out.below hb F2.out.lt)
 have FB:=tB FB hb
 clear hb
 obtain ⟨x0_0,x0_1,x0_2,x0_3,x0_4,x0_5,x0_6,x0_7,x0_8,x0_9,x0_10,x0_11⟩:=F0.out
 try dsimp only
 refine kp hK (fun hHeld=>?_)
 clear hK K
 refine tkz 6 rfl ?_
 refine tkz 7 rfl ?_
 refine wpAnyH_done (by kernel_rfl) ?_ _
 go_wp2_with fail
 obtain ⟨W1,rfl⟩:∃ W1,W1=v_2:=⟨_,rfl⟩
 clear hfl
 go_loopw [10] (fun ii wr=>∃ i:Nat,ii=I Z i∧i≤l.length∧need false sh ca l=need false sh ca (l.drop i)∧HAt wr w.heap.size h∧R3 wr (w.heap.size + 1)∧Below w.heap.size w wr) (fun ii _=>l.length - (intOf ii).toNat)
 case atStart=>exact ⟨0,rfl,by omega,by simp,F0.out,F1.out,FB.out⟩
 case round=>
  obtain ⟨i,rfl,hi,hn,h0,h1,h2⟩:=hrel
  have HN:=zH hn
  have F2:Hid (LAo wr lb lo nx a l.length cap):=HL.out.below h2 hlb
  have F0:=zH h0
  have F1:=zH h1
  have FB:=zH h2
  obtain ⟨g0,g1⟩:=F2.out
  clear h0 h1 h2 hn
  by_cases hlt:i < l.length
  ·obtain ⟨p,hp⟩:∃ p,l[i]? = some p:=⟨_,List.getElem?_eq_getElem hlt⟩
   have H0:=zH hp
   rcases HP.out with hz | ⟨b,o,ha,hbl,h7⟩
   ·rw [hz] at hlt;simp at hlt
   rw [ha] at g1
   obtain ⟨c0,c1,c2,c3,c4,c5,c6⟩:=(h7 i p hp).below FB.out hbl
   clear hp h7 ha
   go_upto_region 6 with fail
   obtain ⟨pb,hpb⟩:∃ pb,pb=wr.heap.size:=⟨_,rfl⟩
   obtain ⟨W2,hW2⟩:∃ W2,W2=wr.alloc (.cells #[I Z p.id,I Z p.fr,I Z p.tw,I Z p.sh,I Z p.ca,I Z p.st,I Z p.pl] 79):=⟨_,rfl⟩
   have F0:Hid (HAt W2 w.heap.size h):=by rw [hW2];exact F0.out.below ((Below.refl _ _).alloc (Nat.le_refl _) _) F0.out.lt
   have F1:Hid (R3 W2 (w.heap.size + 1)):=by rw [hW2];exact F1.out.below ((Below.refl _ _).alloc (Nat.le_refl _) _) F1.out.lt
   have F3:Hid (P7 W2 pb 0 p):=by rw [hW2];exact P7.at_ wr p _ pb hpb
   have FB:Hid (Below w.heap.size w W2):=by rw [hW2];exact FB.out.alloc FB.out.size _
   rw [← hW2,← hpb]
   clear hW2 hpb g0 g1 c0 c1 c2 c3 c4 c5 c6
   cases k0:(p.sh != sh)
   ·cases k1:(p.ca != ca)
    ·cases k2:act p
     ·have HE:Hid (need false sh ca (l.drop i)=need false sh ca (l.drop (i + 1))):=by
       rw [need_at H0.out,if_pos (by simp [skipB, *])]
       exact rfl
      obtain ⟨z0,z1,z2,z3,z4,z5,z6⟩:=F3.out
      go_wp2_with (go_at_call 158;refine (l7Active_any p _).mono ?_;rintro e w3 ⟨rfl,hb⟩;have F0:=zH (F0.out.below hb F0.out.lt);have F1:=zH (F1.out.below hb F1.out.lt);have F3:=zH (F3.out.below hb F3.out.lt);have FB:=tB FB hb;clear hb;obtain ⟨z0,z1,z2,z3,z4,z5,z6⟩:=F3.out;obtain ⟨x1_0,x1_1,x1_2,y1_0,y1_1,y1_2⟩:=F1.out)
      go_roundw
      case rel=>exact ⟨i + 1,by simp,by omega,HN.out.trans HE.out,F0.out,F1.out,FB.out⟩
      case measure=>simp [intOf];omega
     ·have HE:Hid (need false sh ca (l.drop i)=some (p.id,if p.st=1 then p.tw else p.fr)):=by
       rw [need_at H0.out,if_neg (by simp [skipB, *])]
       exact rfl
      obtain ⟨z0,z1,z2,z3,z4,z5,z6⟩:=F3.out
      by_cases ks:p.st=1
      ·have b5:(p.st == 1)=true:=by simpa using ks
       have HV:Hid (Ending.returned (.agg #[I Z 0,I Z p.id,I Z p.tw])=.returned (.agg #[I Z r.1,I Z r.2.1,I Z r.2.2])):=by
        have q:=HR.out
        rw [HN.out,HE.out,if_pos ks] at q
        rw [← q]
        exact rfl
       clear ks
       obtain ⟨x1_0,x1_1,x1_2,y1_0,y1_1,y1_2⟩:=F1.out
       go_wp2_with (go_at_call 158;refine (l7Active_any p _).mono ?_;rintro e w3 ⟨rfl,hb⟩;have F0:=zH (F0.out.below hb F0.out.lt);have F1:=zH (F1.out.below hb F1.out.lt);have F3:=zH (F3.out.below hb F3.out.lt);have FB:=tB FB hb;clear hb;obtain ⟨z0,z1,z2,z3,z4,z5,z6⟩:=F3.out;obtain ⟨x1_0,x1_1,x1_2,y1_0,y1_1,y1_2⟩:=F1.out)
       exact bodyPost_ret (v:=.agg #[I Z 0,I Z p.id,I Z p.tw]) (by simp [results,Tryz.results108,go_sem,x1_0,x1_1,x1_2]) rfl ⟨HV.out,by repeat (first | exact FB.out | (refine Below.setCell ?_ (by simp <;> omega) _))⟩
      ·have b5:(p.st == 1)=false:=by simpa using ks
       have HV:Hid (Ending.returned (.agg #[I Z 0,I Z p.id,I Z p.fr])=.returned (.agg #[I Z r.1,I Z r.2.1,I Z r.2.2])):=by
        have q:=HR.out
        rw [HN.out,HE.out,if_neg ks] at q
        rw [← q]
        exact rfl
       clear ks
       obtain ⟨x1_0,x1_1,x1_2,y1_0,y1_1,y1_2⟩:=F1.out
       go_wp2_with (go_at_call 158;refine (l7Active_any p _).mono ?_;rintro e w3 ⟨rfl,hb⟩;have F0:=zH (F0.out.below hb F0.out.lt);have F1:=zH (F1.out.below hb F1.out.lt);have F3:=zH (F3.out.below hb F3.out.lt);have FB:=tB FB hb;clear hb;obtain ⟨z0,z1,z2,z3,z4,z5,z6⟩:=F3.out;obtain ⟨x1_0,x1_1,x1_2,y1_0,y1_1,y1_2⟩:=F1.out)
       exact bodyPost_ret (v:=.agg #[I Z 0,I Z p.id,I Z p.fr]) (by simp [results,Tryz.results108,go_sem,x1_0,x1_1,x1_2]) rfl ⟨HV.out,by repeat (first | exact FB.out | (refine Below.setCell ?_ (by simp <;> omega) _))⟩
    ·have HE:Hid (need false sh ca (l.drop i)=need false sh ca (l.drop (i + 1))):=by
      rw [need_at H0.out,if_pos (by simp [skipB, *])]
      exact rfl
     obtain ⟨z0,z1,z2,z3,z4,z5,z6⟩:=F3.out
     go_wp2_with (go_at_call 158;refine (l7Active_any p _).mono ?_;rintro e w3 ⟨rfl,hb⟩;have F0:=zH (F0.out.below hb F0.out.lt);have F1:=zH (F1.out.below hb F1.out.lt);have F3:=zH (F3.out.below hb F3.out.lt);have FB:=tB FB hb;clear hb;obtain ⟨z0,z1,z2,z3,z4,z5,z6⟩:=F3.out;obtain ⟨x1_0,x1_1,x1_2,y1_0,y1_1,y1_2⟩:=F1.out)
     go_roundw
     case rel=>exact ⟨i + 1,by simp,by omega,HN.out.trans HE.out,F0.out,F1.out,FB.out⟩
     case measure=>simp [intOf];omega
   ·have HE:Hid (need false sh ca (l.drop i)=need false sh ca (l.drop (i + 1))):=by
     rw [need_at H0.out,if_pos (by simp [skipB, *])]
     exact rfl
    obtain ⟨z0,z1,z2,z3,z4,z5,z6⟩:=F3.out
    go_wp2_with (go_at_call 158;refine (l7Active_any p _).mono ?_;rintro e w3 ⟨rfl,hb⟩;have F0:=zH (F0.out.below hb F0.out.lt);have F1:=zH (F1.out.below hb F1.out.lt);have F3:=zH (F3.out.below hb F3.out.lt);have FB:=tB FB hb;clear hb;obtain ⟨z0,z1,z2,z3,z4,z5,z6⟩:=F3.out;obtain ⟨x1_0,x1_1,x1_2,y1_0,y1_1,y1_2⟩:=F1.out)
    go_roundw
    case rel=>exact ⟨i + 1,by simp,by omega,HN.out.trans HE.out,F0.out,F1.out,FB.out⟩
    case measure=>simp [intOf];omega
  ·have ei:i=l.length:=by omega
   subst ei
   have HV:Hid (Ending.returned (.agg #[I Z 4,I Z 0,I Z 0])=.returned (.agg #[I Z r.1,I Z r.2.1,I Z r.2.2])):=by
    have q:=HR.out
    rw [HN.out,List.drop_length] at q
    rw [← q]
    exact rfl
   obtain ⟨x1_0,x1_1,x1_2,y1_0,y1_1,y1_2⟩:=F1.out
   go_wp2_with fail
   exact bodyPost_ret (v:=.agg #[I Z 4,I Z 0,I Z 0]) (by simp [results,Tryz.results108,go_sem,x1_0,x1_1,x1_2]) rfl ⟨HV.out,by repeat (first | exact FB.out | (refine Below.setCell ?_ (by simp <;> omega) _))⟩
theorem l7Need_trueO(h:Hs)(lb lo:Nat)(nx:Int)(a:Option Addr)(cap:Nat)(l:List Pe)(sh ca:Int)(hl:l.length≤1048576)(r:Int × Int × Int)(hfl:decide (h.ld≤(cnt 1 sh ca l:Int))=true)(hr:needR (need true sh ca l)=r)(w:World)(hL:LAo w lb lo nx a l.length cap)(hP:PIn w w.heap.size a l) :
  Calls Tryz.prog 108 #[.agg #[I Z h.fl,I Z h.gp,I Z h.ln,I Z h.rf,I Z h.sp,I Z h.pu,I Z h.br,I Z h.dr,I Z h.lv,I Z h.dO,I Z h.ld,I Z h.qu],.pointer (some ⟨lb,lo,none⟩),I Z sh,I Z ca] w fun e w'=>e=.returned (.agg #[I Z r.1,I Z r.2.1,I Z r.2.2])∧Below w.heap.size w w':=by
 have HR:=zH hr
 have HP:=zH hP
 have F0:Hid (HAt ((w.alloc (.cells #[I Z h.fl,I Z h.gp,I Z h.ln,I Z h.rf,I Z h.sp,I Z h.pu,I Z h.br,I Z h.dr,I Z h.lv,I Z h.dO,I Z h.ld,I Z h.qu] 31)).alloc (.cells #[I Z 0,I Z 0,I Z 0] 97)) w.heap.size h):=(HAt.new w h _).below ((Below.refl _ _).alloc (Nat.le_refl _) _) (by simp)
 have F1:Hid (R3 ((w.alloc (.cells #[I Z h.fl,I Z h.gp,I Z h.ln,I Z h.rf,I Z h.sp,I Z h.pu,I Z h.br,I Z h.dr,I Z h.lv,I Z h.dO,I Z h.ld,I Z h.qu] 31)).alloc (.cells #[I Z 0,I Z 0,I Z 0] 97)) (w.heap.size + 1)):=R3.at_ _ _ _ (by simp)
 have FB:Hid (Below w.heap.size w ((w.alloc (.cells #[I Z h.fl,I Z h.gp,I Z h.ln,I Z h.rf,I Z h.sp,I Z h.pu,I Z h.br,I Z h.dr,I Z h.lv,I Z h.dO,I Z h.ld,I Z h.qu] 31)).alloc (.cells #[I Z 0,I Z 0,I Z 0] 97))):=((Below.refl _ _).alloc (Nat.le_refl _) _).alloc (by simp) _
 have F2:Hid (LAo ((w.alloc (.cells #[I Z h.fl,I Z h.gp,I Z h.ln,I Z h.rf,I Z h.sp,I Z h.pu,I Z h.br,I Z h.dr,I Z h.lv,I Z h.dO,I Z h.ld,I Z h.qu] 31)).alloc (.cells #[I Z 0,I Z 0,I Z 0] 97)) lb lo nx a l.length cap):=hL.below FB.out hL.lt
 have hlb:=hL.lt
 have HL:=zH hL
 obtain ⟨W0,hW0⟩:∃ W0,W0=((w.alloc (.cells #[I Z h.fl,I Z h.gp,I Z h.ln,I Z h.rf,I Z h.sp,I Z h.pu,I Z h.br,I Z h.dr,I Z h.lv,I Z h.dO,I Z h.ld,I Z h.qu] 31)).alloc (.cells #[I Z 0,I Z 0,I Z 0] 97)):=⟨_,rfl⟩
 rw [← hW0] at F0 F1 F2 FB
 have HW0:=zH hW0
 clear hW0 hr hL hP
 go_enter Tryz.func108,Tryz.ntmps108
 go_upto_region 1 with fail
 rw [← HW0.out]
 clear HW0
 have F0:=zH (F0.out.below (Below.refl _ _).drew F0.out.lt)
 have F1:=zH (F1.out.below (Below.refl _ _).drew F1.out.lt)
 have F2:=zH (F2.out.below (Below.refl _ _).drew F2.out.lt)
 have FB:=zH (FB.out.drew)
 obtain ⟨x0_0,x0_1,x0_2,x0_3,x0_4,x0_5,x0_6,x0_7,x0_8,x0_9,x0_10,x0_11⟩:=F0.out
 refine wp_region_held_drew (S:=(fun w''=>hS w.heap.size h w'')) (by kernel_rfl) (by ((try dsimp only);(try simp only [hS]);first | ((repeat' apply And.intro) <;> assumption) | go_keep)) (fun hHeld=>?_)
 obtain ⟨v_3,hw1⟩:∃ v_3,v_3=W0.drew:=⟨_,rfl⟩
 rw [← hw1] at F0 F1 F2 FB hHeld ⊢
 clear hw1
 obtain ⟨x0_0,x0_1,x0_2,x0_3,x0_4,x0_5,x0_6,x0_7,x0_8,x0_9,x0_10,x0_11⟩:=F0.out
 refine tkz 0 rfl ?_
 refine tkz 1 rfl ?_
 refine tkz 2 rfl ?_
 refine tkz 4 rfl ?_
 refine tkz 5 rfl ?_
 refine rd1 3 (fun K hK=>?_)
 go_simp
 refine (l7Count_anyO lb lo nx a cap l 1 sh ca hl _ F2.out ((HP.out.below FB.out (Nat.le_refl _)).mono FB.out.size)).mono ?_
 rintro e v_4 ⟨rfl,hb⟩
 have F0:=zH (F0.out.below hb F0.out.lt)
 have F1:=zH (F1.out.below hb F1.out.lt)
 have F2:=zH (F2.out.below hb F2.out.lt)
 have FB:=tB FB hb
 clear hb
 obtain ⟨x0_0,x0_1,x0_2,x0_3,x0_4,x0_5,x0_6,x0_7,x0_8,x0_9,x0_10,x0_11⟩:=F0.out
 try dsimp only
 refine kp hK (fun hHeld=>?_)
 clear hK K
 refine tkz 6 rfl ?_
 refine tkz 7 rfl ?_
 refine wpAnyH_done (by kernel_rfl) ?_ _
 go_wp2_with fail
 obtain ⟨W1,rfl⟩:∃ W1,W1=v_4:=⟨_,rfl⟩
 clear hfl
 go_loopw [10] (fun ii wr=>∃ i:Nat,ii=I Z i∧i≤l.length∧need true sh ca l=need true sh ca (l.drop i)∧HAt wr w.heap.size h∧R3 wr (w.heap.size + 1)∧Below w.heap.size w wr) (fun ii _=>l.length - (intOf ii).toNat)
 case atStart=>exact ⟨0,rfl,by omega,by simp,F0.out,F1.out,FB.out⟩
 case round=>
  obtain ⟨i,rfl,hi,hn,h0,h1,h2⟩:=hrel
  have HN:=zH hn
  have F2:Hid (LAo wr lb lo nx a l.length cap):=HL.out.below h2 hlb
  have F0:=zH h0
  have F1:=zH h1
  have FB:=zH h2
  obtain ⟨g0,g1⟩:=F2.out
  clear h0 h1 h2 hn
  by_cases hlt:i < l.length
  ·obtain ⟨p,hp⟩:∃ p,l[i]? = some p:=⟨_,List.getElem?_eq_getElem hlt⟩
   have H0:=zH hp
   rcases HP.out with hz | ⟨b,o,ha,hbl,h7⟩
   ·rw [hz] at hlt;simp at hlt
   rw [ha] at g1
   obtain ⟨c0,c1,c2,c3,c4,c5,c6⟩:=(h7 i p hp).below FB.out hbl
   clear hp h7 ha
   go_upto_region 6 with fail
   obtain ⟨pb,hpb⟩:∃ pb,pb=wr.heap.size:=⟨_,rfl⟩
   obtain ⟨W2,hW2⟩:∃ W2,W2=wr.alloc (.cells #[I Z p.id,I Z p.fr,I Z p.tw,I Z p.sh,I Z p.ca,I Z p.st,I Z p.pl] 79):=⟨_,rfl⟩
   have F0:Hid (HAt W2 w.heap.size h):=by rw [hW2];exact F0.out.below ((Below.refl _ _).alloc (Nat.le_refl _) _) F0.out.lt
   have F1:Hid (R3 W2 (w.heap.size + 1)):=by rw [hW2];exact F1.out.below ((Below.refl _ _).alloc (Nat.le_refl _) _) F1.out.lt
   have F3:Hid (P7 W2 pb 0 p):=by rw [hW2];exact P7.at_ wr p _ pb hpb
   have FB:Hid (Below w.heap.size w W2):=by rw [hW2];exact FB.out.alloc FB.out.size _
   rw [← hW2,← hpb]
   clear hW2 hpb g0 g1 c0 c1 c2 c3 c4 c5 c6
   cases k0:(p.sh != sh)
   ·cases k1:(p.ca != ca)
    ·cases k2:act p
     ·have HE:Hid (need true sh ca (l.drop i)=need true sh ca (l.drop (i + 1))):=by
       rw [need_at H0.out,if_pos (by simp [skipB, *])]
       exact rfl
      obtain ⟨z0,z1,z2,z3,z4,z5,z6⟩:=F3.out
      go_wp2_with (go_at_call 158;refine (l7Active_any p _).mono ?_;rintro e w3 ⟨rfl,hb⟩;have F0:=zH (F0.out.below hb F0.out.lt);have F1:=zH (F1.out.below hb F1.out.lt);have F3:=zH (F3.out.below hb F3.out.lt);have FB:=tB FB hb;clear hb;obtain ⟨z0,z1,z2,z3,z4,z5,z6⟩:=F3.out;obtain ⟨x1_0,x1_1,x1_2,y1_0,y1_1,y1_2⟩:=F1.out)
      go_roundw
      case rel=>exact ⟨i + 1,by simp,by omega,HN.out.trans HE.out,F0.out,F1.out,FB.out⟩
      case measure=>simp [intOf];omega
     ·cases k4:(p.st != 1)
      ·have HE:Hid (need true sh ca (l.drop i)=some (p.id,if p.st=1 then p.tw else p.fr)):=by
        rw [need_at H0.out,if_neg (by simp [skipB, *])]
        exact rfl
       obtain ⟨z0,z1,z2,z3,z4,z5,z6⟩:=F3.out
       by_cases ks:p.st=1
       ·have b5:(p.st == 1)=true:=by simpa using ks
        have HV:Hid (Ending.returned (.agg #[I Z 0,I Z p.id,I Z p.tw])=.returned (.agg #[I Z r.1,I Z r.2.1,I Z r.2.2])):=by
         have q:=HR.out
         rw [HN.out,HE.out,if_pos ks] at q
         rw [← q]
         exact rfl
        clear ks
        obtain ⟨x1_0,x1_1,x1_2,y1_0,y1_1,y1_2⟩:=F1.out
        go_wp2_with (go_at_call 158;refine (l7Active_any p _).mono ?_;rintro e w3 ⟨rfl,hb⟩;have F0:=zH (F0.out.below hb F0.out.lt);have F1:=zH (F1.out.below hb F1.out.lt);have F3:=zH (F3.out.below hb F3.out.lt);have FB:=tB FB hb;clear hb;obtain ⟨z0,z1,z2,z3,z4,z5,z6⟩:=F3.out;obtain ⟨x1_0,x1_1,x1_2,y1_0,y1_1,y1_2⟩:=F1.out)
        exact bodyPost_ret (v:=.agg #[I Z 0,I Z p.id,I Z p.tw]) (by simp [results,Tryz.results108,go_sem,x1_0,x1_1,x1_2]) rfl ⟨HV.out,by repeat (first | exact FB.out | (refine Below.setCell ?_ (by simp <;> omega) _))⟩
       ·have b5:(p.st == 1)=false:=by simpa using ks
        have HV:Hid (Ending.returned (.agg #[I Z 0,I Z p.id,I Z p.fr])=.returned (.agg #[I Z r.1,I Z r.2.1,I Z r.2.2])):=by
         have q:=HR.out
         rw [HN.out,HE.out,if_neg ks] at q
         rw [← q]
         exact rfl
        clear ks
        obtain ⟨x1_0,x1_1,x1_2,y1_0,y1_1,y1_2⟩:=F1.out
        go_wp2_with (go_at_call 158;refine (l7Active_any p _).mono ?_;rintro e w3 ⟨rfl,hb⟩;have F0:=zH (F0.out.below hb F0.out.lt);have F1:=zH (F1.out.below hb F1.out.lt);have F3:=zH (F3.out.below hb F3.out.lt);have FB:=tB FB hb;clear hb;obtain ⟨z0,z1,z2,z3,z4,z5,z6⟩:=F3.out;obtain ⟨x1_0,x1_1,x1_2,y1_0,y1_1,y1_2⟩:=F1.out)
        exact bodyPost_ret (v:=.agg #[I Z 0,I Z p.id,I Z p.fr]) (by simp [results,Tryz.results108,go_sem,x1_0,x1_1,x1_2]) rfl ⟨HV.out,by repeat (first | exact FB.out | (refine Below.setCell ?_ (by simp <;> omega) _))⟩
      ·have HE:Hid (need true sh ca (l.drop i)=need true sh ca (l.drop (i + 1))):=by
        rw [need_at H0.out,if_pos (by simp [skipB, *])]
        exact rfl
       obtain ⟨z0,z1,z2,z3,z4,z5,z6⟩:=F3.out
       go_wp2_with (go_at_call 158;refine (l7Active_any p _).mono ?_;rintro e w3 ⟨rfl,hb⟩;have F0:=zH (F0.out.below hb F0.out.lt);have F1:=zH (F1.out.below hb F1.out.lt);have F3:=zH (F3.out.below hb F3.out.lt);have FB:=tB FB hb;clear hb;obtain ⟨z0,z1,z2,z3,z4,z5,z6⟩:=F3.out;obtain ⟨x1_0,x1_1,x1_2,y1_0,y1_1,y1_2⟩:=F1.out)
       go_roundw
       case rel=>exact ⟨i + 1,by simp,by omega,HN.out.trans HE.out,F0.out,F1.out,FB.out⟩
       case measure=>simp [intOf];omega
    ·have HE:Hid (need true sh ca (l.drop i)=need true sh ca (l.drop (i + 1))):=by
      rw [need_at H0.out,if_pos (by simp [skipB, *])]
      exact rfl
     obtain ⟨z0,z1,z2,z3,z4,z5,z6⟩:=F3.out
     go_wp2_with (go_at_call 158;refine (l7Active_any p _).mono ?_;rintro e w3 ⟨rfl,hb⟩;have F0:=zH (F0.out.below hb F0.out.lt);have F1:=zH (F1.out.below hb F1.out.lt);have F3:=zH (F3.out.below hb F3.out.lt);have FB:=tB FB hb;clear hb;obtain ⟨z0,z1,z2,z3,z4,z5,z6⟩:=F3.out;obtain ⟨x1_0,x1_1,x1_2,y1_0,y1_1,y1_2⟩:=F1.out)
     go_roundw
     case rel=>exact ⟨i + 1,by simp,by omega,HN.out.trans HE.out,F0.out,F1.out,FB.out⟩
     case measure=>simp [intOf];omega
   ·have HE:Hid (need true sh ca (l.drop i)=need true sh ca (l.drop (i + 1))):=by
     rw [need_at H0.out,if_pos (by simp [skipB, *])]
     exact rfl
    obtain ⟨z0,z1,z2,z3,z4,z5,z6⟩:=F3.out
    go_wp2_with (go_at_call 158;refine (l7Active_any p _).mono ?_;rintro e w3 ⟨rfl,hb⟩;have F0:=zH (F0.out.below hb F0.out.lt);have F1:=zH (F1.out.below hb F1.out.lt);have F3:=zH (F3.out.below hb F3.out.lt);have FB:=tB FB hb;clear hb;obtain ⟨z0,z1,z2,z3,z4,z5,z6⟩:=F3.out;obtain ⟨x1_0,x1_1,x1_2,y1_0,y1_1,y1_2⟩:=F1.out)
    go_roundw
    case rel=>exact ⟨i + 1,by simp,by omega,HN.out.trans HE.out,F0.out,F1.out,FB.out⟩
    case measure=>simp [intOf];omega
  ·have ei:i=l.length:=by omega
   subst ei
   have HV:Hid (Ending.returned (.agg #[I Z 4,I Z 0,I Z 0])=.returned (.agg #[I Z r.1,I Z r.2.1,I Z r.2.2])):=by
    have q:=HR.out
    rw [HN.out,List.drop_length] at q
    rw [← q]
    exact rfl
   obtain ⟨x1_0,x1_1,x1_2,y1_0,y1_1,y1_2⟩:=F1.out
   go_wp2_with fail
   exact bodyPost_ret (v:=.agg #[I Z 4,I Z 0,I Z 0]) (by simp [results,Tryz.results108,go_sem,x1_0,x1_1,x1_2]) rfl ⟨HV.out,by repeat (first | exact FB.out | (refine Below.setCell ?_ (by simp <;> omega) _))⟩
theorem l7Need_anyO(h:Hs)(lb lo:Nat)(nx:Int)(a:Option Addr)(cap:Nat)(l:List Pe)(sh ca:Int)(hl:l.length≤1048576)(r:Int × Int × Int)(hr:Hs.need h l sh ca=r)(w:World)(hL:LAo w lb lo nx a l.length cap)(hP:PIn w w.heap.size a l) :
  Calls Tryz.prog 108 #[.agg #[I Z h.fl,I Z h.gp,I Z h.ln,I Z h.rf,I Z h.sp,I Z h.pu,I Z h.br,I Z h.dr,I Z h.lv,I Z h.dO,I Z h.ld,I Z h.qu],.pointer (some ⟨lb,lo,none⟩),I Z sh,I Z ca] w fun e w'=>e=.returned (.agg #[I Z r.1,I Z r.2.1,I Z r.2.2])∧Below w.heap.size w w':=by
 unfold Hs.need at hr
 cases k:decide (h.ld≤(cnt 1 sh ca l:Int)) with
 | false=>rw [k] at hr;exact l7Need_falseO h lb lo nx a cap l sh ca hl r k hr w hL hP
 | true=>rw [k] at hr;exact l7Need_trueO h lb lo nx a cap l sh ca hl r k hr w hL hP
end Go.Proofs.YteimojoicfjdjaaGreat
