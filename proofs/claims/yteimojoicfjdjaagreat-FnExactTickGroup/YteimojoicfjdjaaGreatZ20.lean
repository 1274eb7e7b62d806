/- Parts of the proof: PersF. -/
import Derived.Test.YteimojoicfjdjaaGreatZ18
import Derived.Test.YteimojoicfjdjaaGreatZ19
namespace Go.Proofs.YteimojoicfjdjaaGreat
set_option maxRecDepth 20000
set_option maxHeartbeats 16000000
open Value renaming int → I
open IntKind renaming i64 → Z
open Go.RowKit Pl
set_option linter.unusedSimpArgs false
set_option linter.unusedVariables false
theorem specLedgerFault_any(h:Hs)(x:Lg)(a:Option Addr)(cap:Nat)(hl:x.ps.length≤1048576)(w:World)(hP:PIn w w.heap.size a x.ps) :
  Calls Tryz.prog 37 #[.agg #[I Z h.fl,I Z h.gp,I Z h.ln,I Z h.rf,I Z h.sp,I Z h.pu,I Z h.br,I Z h.dr,I Z h.lv,I Z h.dO,I Z h.ld,I Z h.qu],.agg #[I Z x.nx,.slice a x.ps.length cap]] w fun e w'=>e=.returned (I Z (Hs.led h x))∧Below w.heap.size w w':=by
 unfold Hs.led
 have HP:=zH hP
 have F0:Hid (HAt ((w.alloc (.cells #[I Z h.fl,I Z h.gp,I Z h.ln,I Z h.rf,I Z h.sp,I Z h.pu,I Z h.br,I Z h.dr,I Z h.lv,I Z h.dO,I Z h.ld,I Z h.qu] 31)).alloc (.cells #[I Z x.nx,.slice a x.ps.length cap] 35)) w.heap.size h):=(HAt.new w h _).below ((Below.refl _ _).alloc (Nat.le_refl _) _) (by simp)
 have F1:Hid (LAt ((w.alloc (.cells #[I Z h.fl,I Z h.gp,I Z h.ln,I Z h.rf,I Z h.sp,I Z h.pu,I Z h.br,I Z h.dr,I Z h.lv,I Z h.dO,I Z h.ld,I Z h.qu] 31)).alloc (.cells #[I Z x.nx,.slice a x.ps.length cap] 35)) (w.heap.size + 1) x.nx a x.ps.length cap):=(LW.at_ _ x.nx (.slice a x.ps.length cap) _ _ (by simp)).lat
 have FB:Hid (Below w.heap.size w ((w.alloc (.cells #[I Z h.fl,I Z h.gp,I Z h.ln,I Z h.rf,I Z h.sp,I Z h.pu,I Z h.br,I Z h.dr,I Z h.lv,I Z h.dO,I Z h.ld,I Z h.qu] 31)).alloc (.cells #[I Z x.nx,.slice a x.ps.length cap] 35))):=((Below.refl _ _).alloc (Nat.le_refl _) _).alloc (by simp) _
 clear hP
 by_cases hf:h.fault=0
 ·rw [if_pos hf]
  unfold Hs.ledC
  cases k1:inB x.nx 1 1000000000000000
  ·rw [if_neg (by simp)]
   go_enter Tryz.func37,Tryz.ntmps37
   go_wp2_with (first | (go_at_call 33;refine (specFault_any h _).mono ?_;rw [hf];rintro e w1 ⟨rfl,hb⟩;have F0:=zH (F0.out.below hb F0.out.lt);have F1:=zH (F1.out.below hb F1.out.lt);have FB:=tB FB hb;clear hb;obtain ⟨x0_0,x0_1,x0_2,x0_3,x0_4,x0_5,x0_6,x0_7,x0_8,x0_9,x0_10,x0_11⟩:=F0.out;obtain ⟨g0,g1⟩:=F1.out) | (go_at_call 16;refine (l1In_any _ _ _ _).mono ?_;rintro e w' ⟨rfl,hw⟩;obtain rfl:=hw.symm;clear hw))
   go_ret
   exact ⟨rfl,FB.out⟩
  ·rw [if_pos rfl]
   have kk:=inB_iff.1 k1
   by_cases k2:60 < x.ps.length
   ·rw [if_pos k2]
    have b2:decide ((60:Int) < (x.ps.length:Int))=true:=decide_eq_true (by omega)
    go_enter Tryz.func37,Tryz.ntmps37
    go_wp2_with (first | (go_at_call 33;refine (specFault_any h _).mono ?_;rw [hf];rintro e w1 ⟨rfl,hb⟩;have F0:=zH (F0.out.below hb F0.out.lt);have F1:=zH (F1.out.below hb F1.out.lt);have FB:=tB FB hb;clear hb;obtain ⟨x0_0,x0_1,x0_2,x0_3,x0_4,x0_5,x0_6,x0_7,x0_8,x0_9,x0_10,x0_11⟩:=F0.out;obtain ⟨g0,g1⟩:=F1.out) | (go_at_call 16;refine (l1In_any _ _ _ _).mono ?_;rintro e w' ⟨rfl,hw⟩;obtain rfl:=hw.symm;clear hw))
    go_ret
    exact ⟨rfl,FB.out⟩
   ·rw [if_neg k2]
    have b2:decide ((60:Int) < (x.ps.length:Int))=false:=decide_eq_false (by omega)
    obtain ⟨r,hr⟩:∃ r,(if Hs.first h x.nx 0 x.ps=0 then (if h.qu < cnt 0 (-1) 0 x.ps then 2 else if Hs.over h x.ps=true then 2 else 0) else Hs.first h x.nx 0 x.ps)=r:=⟨_,rfl⟩
    rw [hr]
    have HR:=zH hr
    clear hr
    go_enter Tryz.func37,Tryz.ntmps37
    go_wp2_with (first | (go_at_call 33;refine (specFault_any h _).mono ?_;rw [hf];rintro e w1 ⟨rfl,hb⟩;have F0:=zH (F0.out.below hb F0.out.lt);have F1:=zH (F1.out.below hb F1.out.lt);have FB:=tB FB hb;clear hb;obtain ⟨x0_0,x0_1,x0_2,x0_3,x0_4,x0_5,x0_6,x0_7,x0_8,x0_9,x0_10,x0_11⟩:=F0.out;obtain ⟨g0,g1⟩:=F1.out) | (go_at_call 16;refine (l1In_any _ _ _ _).mono ?_;rintro e w' ⟨rfl,hw⟩;obtain rfl:=hw.symm;clear hw))
    clear x0_0 x0_1 x0_2 x0_3 x0_4 x0_5 x0_6 x0_7 x0_8 x0_9 x0_10 x0_11 g0 g1
    go_loopw [6] (fun ii wr=>∃ i:Nat,ii=I Z i∧i≤x.ps.length∧(∀ j q,j < i→x.ps[j]? = some q→Hs.pers h x.nx (if j=0 then 0 else lastId x.ps j) q=0)∧HAt wr w.heap.size h∧LAt wr (w.heap.size + 1) x.nx a x.ps.length cap∧Below w.heap.size w wr) (fun ii _=>x.ps.length - (intOf ii).toNat)
    case atStart=>exact ⟨0,rfl,by omega,fun j q hj=>absurd hj (by omega),F0.out,F1.out,FB.out⟩
    case round=>
     obtain ⟨i,rfl,hi,hok,h0,h1,h2⟩:=hrel
     have HOK:=zH hok
     have F0:=zH h0
     have F1:=zH h1
     have FB:=zH h2
     clear h0 h1 h2 hok
     obtain ⟨x0_0,x0_1,x0_2,x0_3,x0_4,x0_5,x0_6,x0_7,x0_8,x0_9,x0_10,x0_11⟩:=F0.out
     obtain ⟨g0,g1⟩:=F1.out
     by_cases hlt:i < x.ps.length
     ·obtain ⟨p,hp⟩:∃ p,x.ps[i]? = some p:=⟨_,List.getElem?_eq_getElem hlt⟩
      have H0:=zH hp
      have FS:Hid (Hs.first h x.nx 0 x.ps=if Hs.pers h x.nx (if i=0 then 0 else lastId x.ps i) p=0 then Hs.first h x.nx p.id (x.ps.drop (i + 1)) else Hs.pers h x.nx (if i=0 then 0 else lastId x.ps i) p):=first_step hp HOK.out
      have el:(if i=0 then 0 else lastId x.ps i)=lastId x.ps i:=by
       cases i with
       | zero=>rfl
       | succ i=>rw [if_neg (by omega)]
      rw [el] at FS
      rcases HP.out with hz | ⟨b,o,ha,hbl,h7⟩
      ·rw [hz] at hlt;simp at hlt
      have HA:=zH ha
      clear ha
      have FQ:Hid (∀ i p,x.ps[i]? = some p→P7 wr b (o + i * 7) p):=fun j q hq=>(h7 j q hq).below FB.out hbl
      obtain ⟨c,hc⟩:∃ c,Hs.pers h x.nx (lastId x.ps i) p=c:=⟨_,rfl⟩
      rw [hc] at FS
      have HC:=zH hc
      clear hc h7 hp
      by_cases c0:c=0
      ·subst c0
       have HOK':Hid (∀ j q,j < i + 1→x.ps[j]? = some q→Hs.pers h x.nx (if j=0 then 0 else lastId x.ps j) q=0):=by
        intro j q hj hq
        by_cases ej:j=i
        ·subst ej
         rw [H0.out] at hq
         cases hq
         rw [el]
         exact HC.out
        ·exact HOK.out j q (by omega) hq
       clear el
       go_wp2_with (go_at_call 60;refine (l7Person_any h hf (w.heap.size + 1) b o x.ps.length cap x.nx kk.1 kk.2 x.ps i p H0.out rfl (by omega) _ (by have q:=F1.out;rw [HA.out] at q;exact q) FQ.out).mono ?_;rw [HC.out];rintro e w2 ⟨rfl,hb⟩;have F0:=zH (F0.out.below hb F0.out.lt);have F1:=zH (F1.out.below hb F1.out.lt);have FB:=tB FB hb;clear hb)
       go_roundw
       case rel=>exact ⟨i + 1,by simp,by omega,HOK'.out,F0.out,F1.out,FB.out⟩
       case measure=>simp [intOf];omega
      ·have hn:(c != 0)=true:=by simpa using c0
       have HR:Hid (c=r):=by
        have q:=FS.out
        rw [if_neg c0] at q
        have z:=HR.out
        rw [q,if_neg c0] at z
        exact z
       clear el c0 FS
       go_wp2_with (go_at_call 60;refine (l7Person_any h hf (w.heap.size + 1) b o x.ps.length cap x.nx kk.1 kk.2 x.ps i p H0.out rfl (by omega) _ (by have q:=F1.out;rw [HA.out] at q;exact q) FQ.out).mono ?_;rw [HC.out];rintro e w2 ⟨rfl,hb⟩;have FB:=tB FB hb;clear hb)
       go_ret
       exact ⟨ret_int HR.out,FB.out⟩
     ·have ei:i=x.ps.length:=by omega
      subst ei
      have ef:Hs.first h x.nx 0 x.ps=0:=first_all HOK.out
      have HR:Hid ((if h.qu < cnt 0 (-1) 0 x.ps then 2 else if Hs.over h x.ps=true then 2 else 0)=r):=by
       have q:=HR.out
       rw [if_pos ef] at q
       exact q
      clear ef HOK hlt hi
      go_wp2_with fail
      by_cases kq:h.qu < cnt 0 (-1) 0 x.ps
      ·have HR:Hid ((2:Int)=r):=by
        have q:=HR.out
        rw [if_pos kq] at q
        exact q
       have b3:decide (h.qu < (cnt 0 (-1) 0 x.ps:Int))=true:=decide_eq_true kq
       have F0:=zH (F0.out.below (Below.refl _ _).drew F0.out.lt)
       have F1:=zH (F1.out.below (Below.refl _ _).drew F1.out.lt)
       have FB:=zH (FB.out.drew)
       obtain ⟨x0_0,x0_1,x0_2,x0_3,x0_4,x0_5,x0_6,x0_7,x0_8,x0_9,x0_10,x0_11⟩:=F0.out
       refine wp_region_held_drew (S:=(fun w''=>hS w.heap.size h w'')) (by kernel_rfl) (by ((try dsimp only);(try simp only [hS]);first | ((repeat' apply And.intro) <;> assumption) | go_keep)) (fun hHeld=>?_)
       obtain ⟨v_1,hw1⟩:∃ v_1,v_1=wr.drew:=⟨_,rfl⟩
       rw [← hw1] at F0 F1 FB hHeld ⊢
       clear hw1
       obtain ⟨x0_0,x0_1,x0_2,x0_3,x0_4,x0_5,x0_6,x0_7,x0_8,x0_9,x0_10,x0_11⟩:=F0.out
       refine tkz 1 rfl ?_
       refine tkz 2 rfl ?_
       refine rd1 0 (fun K hK=>?_)
       go_simp
       refine (l7Count_any (w.heap.size + 1) x.nx a cap x.ps 0 (-1) 0 hl _ F1.out ((HP.out.below FB.out (Nat.le_refl _)).mono FB.out.size)).mono ?_
       rintro e v_2 ⟨rfl,hb⟩
       have F0:=zH (F0.out.below hb F0.out.lt)
       have F1:=zH (F1.out.below hb F1.out.lt)
       have FB:=tB FB hb
       clear hb
       obtain ⟨x0_0,x0_1,x0_2,x0_3,x0_4,x0_5,x0_6,x0_7,x0_8,x0_9,x0_10,x0_11⟩:=F0.out
       try dsimp only
       refine kp hK (fun hHeld=>?_)
       clear hK K
       refine tkz 3 rfl ?_
       refine wpAnyH_done (by kernel_rfl) ?_ _
       go_wp2_with fail
       go_ret
       exact ⟨ret_int HR.out,FB.out⟩
      ·have HR:Hid ((if Hs.over h x.ps=true then 2 else 0)=r):=by
        have q:=HR.out
        rw [if_neg kq] at q
        exact q
       have b3:decide (h.qu < (cnt 0 (-1) 0 x.ps:Int))=false:=decide_eq_false kq
       have F0:=zH (F0.out.below (Below.refl _ _).drew F0.out.lt)
       have F1:=zH (F1.out.below (Below.refl _ _).drew F1.out.lt)
       have FB:=zH (FB.out.drew)
       obtain ⟨x0_0,x0_1,x0_2,x0_3,x0_4,x0_5,x0_6,x0_7,x0_8,x0_9,x0_10,x0_11⟩:=F0.out
       refine wp_region_held_drew (S:=(fun w''=>hS w.heap.size h w'')) (by kernel_rfl) (by ((try dsimp only);(try simp only [hS]);first | ((repeat' apply And.intro) <;> assumption) | go_keep)) (fun hHeld=>?_)
       obtain ⟨v_3,hw1⟩:∃ v_3,v_3=wr.drew:=⟨_,rfl⟩
       rw [← hw1] at F0 F1 FB hHeld ⊢
       clear hw1
       obtain ⟨x0_0,x0_1,x0_2,x0_3,x0_4,x0_5,x0_6,x0_7,x0_8,x0_9,x0_10,x0_11⟩:=F0.out
       refine tkz 1 rfl ?_
       refine tkz 2 rfl ?_
       refine rd1 0 (fun K hK=>?_)
       go_simp
       refine (l7Count_any (w.heap.size + 1) x.nx a cap x.ps 0 (-1) 0 hl _ F1.out ((HP.out.below FB.out (Nat.le_refl _)).mono FB.out.size)).mono ?_
       rintro e v_4 ⟨rfl,hb⟩
       have F0:=zH (F0.out.below hb F0.out.lt)
       have F1:=zH (F1.out.below hb F1.out.lt)
       have FB:=tB FB hb
       clear hb
       obtain ⟨x0_0,x0_1,x0_2,x0_3,x0_4,x0_5,x0_6,x0_7,x0_8,x0_9,x0_10,x0_11⟩:=F0.out
       try dsimp only
       refine kp hK (fun hHeld=>?_)
       clear hK K
       refine tkz 3 rfl ?_
       refine wpAnyH_done (by kernel_rfl) ?_ _
       go_wp2_with fail
       obtain ⟨w3,rfl⟩:∃ w3,w3=v_4:=⟨_,rfl⟩
       clear kq
       go_loopw [8] (fun ii wr=>∃ k:Nat,ii=I Z k∧k≤6∧(∀ j,j < k→¬ h.ld < cnt 1 ((j / 2:Nat):Int) ((j % 2:Nat):Int) x.ps)∧HAt wr w.heap.size h∧LAt wr (w.heap.size + 1) x.nx a x.ps.length cap∧Below w.heap.size w wr) (fun ii _=>6 - (intOf ii).toNat)
       case atStart=>exact ⟨0,rfl,by omega,fun j hj=>absurd hj (by omega),F0.out,F1.out,FB.out⟩
       case round=>
        obtain ⟨k,rfl,hk,hok,h0,h1,h2⟩:=hrel
        have HOK:=zH hok
        have F0:=zH h0
        have F1:=zH h1
        have FB:=zH h2
        clear h0 h1 h2 hok
        by_cases hlt:k < 6
        ·obtain ⟨s1,hs1⟩:∃ s1:Int,((k / 2:Nat):Int)=s1:=⟨_,rfl⟩
         obtain ⟨s2,hs2⟩:∃ s2:Int,((k % 2:Nat):Int)=s2:=⟨_,rfl⟩
         have eq:Int.tdiv (k:Int) 2=s1:=by rw [Int.tdiv_eq_ediv_of_nonneg (by omega)];omega
         have er:Int.tmod (k:Int) 2=s2:=by rw [Int.tmod_eq_emod_of_nonneg (by omega)];omega
         have wq:IntKind.i64.wrap s1=s1:=IntWalk.i64_in _ (by omega)
         have wr_:IntKind.i64.wrap s2=s2:=IntWalk.i64_in _ (by omega)
         have wk:IntKind.i64.wrap ((k:Int) + 1)=(k:Int) + 1:=IntWalk.i64_in _ (by omega)
         have H1:=zH hs1
         have H2:=zH hs2
         clear hs1 hs2
         go_wp2_with fail
         by_cases kc:h.ld < cnt 1 s1 s2 x.ps
         ·have ov:Hs.over h x.ps=true:=by
           unfold Hs.over
           rw [List.any_eq_true]
           exact ⟨k,List.mem_range.2 hlt,by rw [H1.out,H2.out];exact decide_eq_true kc⟩
          have HR:Hid ((2:Int)=r):=by
           have q:=HR.out
           rw [ov,if_pos rfl] at q
           exact q
          have b4:decide (h.ld < (cnt 1 s1 s2 x.ps:Int))=true:=decide_eq_true kc
          clear ov kc
          have F0:=zH (F0.out.below (Below.refl _ _).drew F0.out.lt)
          have F1:=zH (F1.out.below (Below.refl _ _).drew F1.out.lt)
          have FB:=zH (FB.out.drew)
          obtain ⟨x0_0,x0_1,x0_2,x0_3,x0_4,x0_5,x0_6,x0_7,x0_8,x0_9,x0_10,x0_11⟩:=F0.out
          refine wp_region_held_drew (S:=(fun w''=>hS w.heap.size h w'')) (by kernel_rfl) (by ((try dsimp only);(try simp only [hS]);first | ((repeat' apply And.intro) <;> assumption) | go_keep)) (fun hHeld=>?_)
          obtain ⟨v_5,hw1⟩:∃ v_5,v_5=wr.drew:=⟨_,rfl⟩
          rw [← hw1] at F0 F1 FB hHeld ⊢
          clear hw1
          obtain ⟨x0_0,x0_1,x0_2,x0_3,x0_4,x0_5,x0_6,x0_7,x0_8,x0_9,x0_10,x0_11⟩:=F0.out
          refine tkz 0 rfl ?_
          refine tkz 1 rfl ?_
          refine tkz 2 rfl ?_
          refine tkz 3 rfl ?_
          refine tkz 5 rfl ?_
          refine tkz 6 rfl ?_
          refine rd1 4 (fun K hK=>?_)
          go_simp
          refine (l7Count_any (w.heap.size + 1) x.nx a cap x.ps 1 s1 s2 hl _ F1.out ((HP.out.below FB.out (Nat.le_refl _)).mono FB.out.size)).mono ?_
          rintro e v_6 ⟨rfl,hb⟩
          have F0:=zH (F0.out.below hb F0.out.lt)
          have F1:=zH (F1.out.below hb F1.out.lt)
          have FB:=tB FB hb
          clear hb
          obtain ⟨x0_0,x0_1,x0_2,x0_3,x0_4,x0_5,x0_6,x0_7,x0_8,x0_9,x0_10,x0_11⟩:=F0.out
          try dsimp only
          refine kp hK (fun hHeld=>?_)
          clear hK K
          refine tkz 7 rfl ?_
          refine wpAnyH_done (by kernel_rfl) ?_ _
          go_wp2_with fail
          go_ret
          exact ⟨ret_int HR.out,FB.out⟩
         ·have b4:decide (h.ld < (cnt 1 s1 s2 x.ps:Int))=false:=decide_eq_false kc
          have HOK':Hid (∀ j,j < k + 1→¬ h.ld < cnt 1 ((j / 2:Nat):Int) ((j % 2:Nat):Int) x.ps):=by
           intro j hj
           by_cases ej:j=k
           ·subst ej;rw [H1.out,H2.out];exact kc
           ·have z:=HOK.out j (by omega)
            omega
          clear kc
          have F0:=zH (F0.out.below (Below.refl _ _).drew F0.out.lt)
          have F1:=zH (F1.out.below (Below.refl _ _).drew F1.out.lt)
          have FB:=zH (FB.out.drew)
          obtain ⟨x0_0,x0_1,x0_2,x0_3,x0_4,x0_5,x0_6,x0_7,x0_8,x0_9,x0_10,x0_11⟩:=F0.out
          refine wp_region_held_drew (S:=(fun w''=>hS w.heap.size h w'')) (by kernel_rfl) (by ((try dsimp only);(try simp only [hS]);first | ((repeat' apply And.intro) <;> assumption) | go_keep)) (fun hHeld=>?_)
          obtain ⟨v_7,hw1⟩:∃ v_7,v_7=wr.drew:=⟨_,rfl⟩
          rw [← hw1] at F0 F1 FB hHeld ⊢
          clear hw1
          obtain ⟨x0_0,x0_1,x0_2,x0_3,x0_4,x0_5,x0_6,x0_7,x0_8,x0_9,x0_10,x0_11⟩:=F0.out
          refine tkz 0 rfl ?_
          refine tkz 1 rfl ?_
          refine tkz 2 rfl ?_
          refine tkz 3 rfl ?_
          refine tkz 5 rfl ?_
          refine tkz 6 rfl ?_
          refine rd1 4 (fun K hK=>?_)
          go_simp
          refine (l7Count_any (w.heap.size + 1) x.nx a cap x.ps 1 s1 s2 hl _ F1.out ((HP.out.below FB.out (Nat.le_refl _)).mono FB.out.size)).mono ?_
          rintro e v_8 ⟨rfl,hb⟩
          have F0:=zH (F0.out.below hb F0.out.lt)
          have F1:=zH (F1.out.below hb F1.out.lt)
          have FB:=tB FB hb
          clear hb
          obtain ⟨x0_0,x0_1,x0_2,x0_3,x0_4,x0_5,x0_6,x0_7,x0_8,x0_9,x0_10,x0_11⟩:=F0.out
          try dsimp only
          refine kp hK (fun hHeld=>?_)
          clear hK K
          refine tkz 7 rfl ?_
          refine wpAnyH_done (by kernel_rfl) ?_ _
          go_wp2_with fail
          go_roundw
          case rel=>exact ⟨k + 1,by simp,by omega,HOK'.out,F0.out,F1.out,FB.out⟩
          case measure=>simp [intOf];omega
        ·have ek:k=6:=by omega
         subst ek
         have ov:Hs.over h x.ps=false:=by
          unfold Hs.over
          rw [List.any_eq_false]
          intro j hj
          rw [List.mem_range] at hj
          simpa using HOK.out j hj
         have HR:Hid ((0:Int)=r):=by
          have q:=HR.out
          rw [ov,if_neg (by simp)] at q
          exact q
         clear ov
         go_wp2_with fail
         go_ret
         exact ⟨ret_int HR.out,FB.out⟩
 ·rw [if_neg hf]
  have hn:(h.fault != 0)=true:=by simpa using hf
  clear hf
  go_enter Tryz.func37,Tryz.ntmps37
  go_wp2_with (go_at_call 33;refine (specFault_any h _).mono ?_;rintro e w1 ⟨rfl,hb⟩;have F0:=zH (F0.out.below hb F0.out.lt);have F1:=zH (F1.out.below hb F1.out.lt);have FB:=tB FB hb;clear hb;obtain ⟨x0_0,x0_1,x0_2,x0_3,x0_4,x0_5,x0_6,x0_7,x0_8,x0_9,x0_10,x0_11⟩:=F0.out;obtain ⟨g0,g1⟩:=F1.out)
  go_ret
  exact ⟨rfl,FB.out⟩
end Go.Proofs.YteimojoicfjdjaaGreat
