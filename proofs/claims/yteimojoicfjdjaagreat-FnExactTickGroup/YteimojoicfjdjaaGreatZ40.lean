/- Parts of the proof: LedD. -/
import Derived.Test.YteimojoicfjdjaaGreatZ39
import Derived.Deep.RegionHeld3
import Derived.BigGuardPart
namespace Go.Proofs.YteimojoicfjdjaaGreat
set_option maxRecDepth 20000
set_option maxHeartbeats 16000000
open Value renaming int → I
open IntKind renaming i64 → Z
open Go.RowKit Pl
set_option linter.unusedSimpArgs false
set_option linter.unusedVariables false
structure K6(w:World)(b:Nat)(f:Nat→Int):Prop where
 c:∀ k,k < 6→w.cell? ⟨b,k,none⟩=some (I Z (f k))
 z:∀ k,k < 6→w.frozen? ⟨b,k,none⟩=false
theorem K6.lt{w:World}{b:Nat}{f:Nat→Int}(a:K6 w b f):b < w.heap.size:=World.block_lt_of_cell? w _ (a.c 0 (by omega))
theorem K6.below{W w:World}{b B:Nat}{f:Nat→Int}(a:K6 W b f)(hb:Below B W w)(hB:b < B):K6 w b f:=⟨fun k hk=>(hb.cell (p:=⟨b,k,none⟩) hB).trans (a.c k hk),fun k hk=>(hb.frozen (p:=⟨b,k,none⟩) hB).trans (a.z k hk)⟩
theorem K6.alloc{W:World}{b:Nat}{f:Nat→Int}(a:K6 W b f)(ob:Obj):K6 (W.alloc ob) b f:=a.below ((Below.refl _ _).alloc (Nat.le_refl _) ob) a.lt
theorem K6.at_(w:World)(T:TypeId)(b:Nat)(hb:b=w.heap.size)(f:Nat→Int)(h0:∀ k,f k=0):K6 (w.alloc (.cells #[I Z 0,I Z 0,I Z 0,I Z 0,I Z 0,I Z 0] T)) b f:=by
 subst hb
 constructor
 ·intro k hk
  rw [h0]
  have:k=0 ∨ k=1 ∨ k=2 ∨ k=3 ∨ k=4 ∨ k=5:=by omega
  rcases this with rfl | rfl | rfl | rfl | rfl | rfl <;> simp
 ·intro k hk
  simp
theorem K6.set{W:World}{b:Nat}{f g:Nat→Int}(a:K6 W b f){k0:Nat}(hk0:k0 < 6){x:Int}(h1:g k0=x)(h2:∀ k,k ≠ k0→g k=f k):K6 (W.setCell ⟨b,k0,none⟩ (I Z x)) b g:=by
 constructor
 ·intro k hk
  by_cases e:k=k0
  ·subst e
   rw [World.cell?_setCell_same _ _ _ (a.c k hk),h1]
  ·rw [World.cell?_setCell_other _ _ _ _ (fun q=>e (congrArg Addr.off q).symm),a.c k hk,h2 k e]
 ·intro k hk
  rw [World.frozen?_setCell]
  exact a.z k hk
theorem P7.other{W:World}{b o k o':Nat}{u:Value}{p:Pe}(a:P7 W b o p)(hne:b ≠ k):P7 (W.setCell ⟨k,o',none⟩ u) b o p:=a.of (fun _=>World.cell?_setCell_other _ _ _ _ (fun e=>hne (congrArg Addr.block e).symm))
def rc(l:List Pe)(k:Nat):Int:=(cnt 1 ((k / 2:Nat):Int) ((k % 2:Nat):Int) l:Int)
def Hs.crowd(h:Hs)(l:List Pe):Bool:=Hs.over h l || decide (h.qu < (cnt 0 (-1) 0 l:Int))
theorem rc_take{l:List Pe}{i:Nat}{p:Pe}(h:l[i]? = some p)(k:Nat):rc (l.take (i + 1)) k=rc (l.take i) k + (if isIn 1 ((k / 2:Nat):Int) ((k % 2:Nat):Int) p=true then 1 else 0):=by
 unfold rc
 rw [cnt_take h]
 split <;> simp
theorem rc_le(l:List Pe)(i k:Nat):0≤rc (l.take i) k∧rc (l.take i) k≤i:=by
 unfold rc
 have:=cnt_le 1 ((k / 2:Nat):Int) ((k % 2:Nat):Int) l i
 omega
theorem rc_mono(l:List Pe)(i k:Nat):rc (l.take i) k≤rc l k:=by
 unfold rc cnt
 have:=List.Sublist.countP_le (p:=isIn 1 ((k / 2:Nat):Int) ((k % 2:Nat):Int)) (List.take_sublist i l)
 omega
theorem over_yes{h:Hs}{l:List Pe}{i k:Nat}(hk:k < 6)(c:h.ld < rc (l.take i) k):Hs.over h l=true:=by
 unfold Hs.over
 rw [List.any_eq_true]
 refine ⟨k,by simp;exact hk,decide_eq_true (Int.lt_of_lt_of_le c (rc_mono l i k))⟩
theorem over_no{h:Hs}{l:List Pe}(c:∀ k,k < 6→rc l k≤h.ld):Hs.over h l=false:=by
 unfold Hs.over
 rw [List.any_eq_false]
 intro k hk
 simp at hk
 have:=c k hk
 unfold rc at this
 simpa using this
theorem isCrowded_any(h:Hs)(d1:0≤h.ld)(d2:h.ld≤20)(l:List Pe)(a:Option Addr)(cap:Nat)(hl:l.length≤1048576)(hs:∀ (i:Nat) (p:Pe),l[i]? = some p→(0≤p.sh∧p.sh≤2)∧(0≤p.ca∧p.ca≤1)∧(0≤p.st∧p.st≤4))(w:World)(hP:PIn w w.heap.size a l) :
  Calls Tryz.prog 83 #[.agg #[I Z h.fl,I Z h.gp,I Z h.ln,I Z h.rf,I Z h.sp,I Z h.pu,I Z h.br,I Z h.dr,I Z h.lv,I Z h.dO,I Z h.ld,I Z h.qu],.slice a l.length cap] w fun e w'=>e=.returned (.bool (Hs.crowd h l))∧Below w.heap.size w w':=by
 have HP:=zH hP
 have HS:=zH hs
 have F0:Hid (HAt ((w.alloc (.cells #[I Z h.fl,I Z h.gp,I Z h.ln,I Z h.rf,I Z h.sp,I Z h.pu,I Z h.br,I Z h.dr,I Z h.lv,I Z h.dO,I Z h.ld,I Z h.qu] 31)).alloc (.cells #[I Z 0,I Z 0,I Z 0,I Z 0,I Z 0,I Z 0] 178)) w.heap.size h):=(HAt.new w h _).below ((Below.refl _ _).alloc (Nat.le_refl _) _) (by simp)
 have F2:Hid (K6 ((w.alloc (.cells #[I Z h.fl,I Z h.gp,I Z h.ln,I Z h.rf,I Z h.sp,I Z h.pu,I Z h.br,I Z h.dr,I Z h.lv,I Z h.dO,I Z h.ld,I Z h.qu] 31)).alloc (.cells #[I Z 0,I Z 0,I Z 0,I Z 0,I Z 0,I Z 0] 178)) (w.heap.size + 1) (rc (l.take 0))):=K6.at_ _ _ _ (by simp) _ (fun k=>by simp [rc,cnt])
 have FB:Hid (Below w.heap.size w ((w.alloc (.cells #[I Z h.fl,I Z h.gp,I Z h.ln,I Z h.rf,I Z h.sp,I Z h.pu,I Z h.br,I Z h.dr,I Z h.lv,I Z h.dO,I Z h.ld,I Z h.qu] 31)).alloc (.cells #[I Z 0,I Z 0,I Z 0,I Z 0,I Z 0,I Z 0] 178))):=((Below.refl _ _).alloc (Nat.le_refl _) _).alloc (by simp) _
 clear hP hs
 go_enter Tryz.func83,Tryz.ntmps83
 go_wp2_with fail
 go_loopw [10] (fun ii wr=>∃ i:Nat,ii=I Z i∧i≤l.length∧HAt wr w.heap.size h∧K6 wr (w.heap.size + 1) (rc (l.take i))∧(∀ k,k < 6→rc (l.take i) k≤h.ld)∧Below w.heap.size w wr) (fun ii _=>l.length - (intOf ii).toNat)
 case atStart=>exact ⟨0,rfl,by omega,F0.out,F2.out,fun k _=>(by simp [rc,cnt];omega),FB.out⟩
 case round=>
  obtain ⟨i,rfl,hi,hF0,hF2,hok,hb⟩:=hrel
  have F0:=zH hF0
  have F2:=zH hF2
  have HOK:=zH hok
  have FB:=zH hb
  clear hF0 hF2 hok hb
  by_cases hlt:i < l.length
  ·obtain ⟨p,hp⟩:∃ p,l[i]? = some p:=⟨_,List.getElem?_eq_getElem hlt⟩
   rcases HP.out with h0 | ⟨b,o,rfl,hbl,h7⟩
   ·rw [h0] at hlt;simp at hlt
   obtain ⟨⟨s1,s2⟩,⟨s3,s4⟩,-⟩:=HS.out i p hp
   obtain ⟨c0,c1,c2,c3,c4,c5,c6⟩:=(h7 i p hp).below FB.out hbl
   clear h7
   by_cases hst:p.st=1
   ·obtain ⟨id,fr,tw,sh,ca,st,pl⟩:=p
    dsimp only at s1 s2 s3 s4 hst c0 c1 c2 c3 c4 c5 c6
    subst hst
    obtain ⟨s,rfl⟩:∃ s:Nat,sh=s:=⟨sh.toNat,by omega⟩
    obtain ⟨c,rfl⟩:∃ c:Nat,ca=c:=⟨ca.toNat,by omega⟩
    have ls:s < 3:=by omega
    have lc:c < 2:=by omega
    have ls':(s:Int) < 3:=by omega
    have lc':(c:Int) < 2:=by omega
    have ke1:(s * 2 + c) / 2=s:=by omega
    have ke2:(s * 2 + c) % 2=c:=by omega
    have HX1:Hid (rc (l.take (i + 1)) (s * 2 + c)=rc (l.take i) (s * 2 + c) + 1):=by
     rw [rc_take hp,if_pos (by rw [ke1,ke2];simp [isIn])]
     exact rfl
    have HX2:Hid (∀ k,k ≠ (s * 2 + c)→rc (l.take (i + 1)) k=rc (l.take i) k):=by
     intro k hk
     rw [rc_take hp,if_neg,Int.add_zero]
     simp only [isIn]
     simp
     omega
    have lx:=rc_le l i (s * 2 + c)
    have ew:IntKind.i64.wrap (rc (l.take i) (s * 2 + c) + 1)=rc (l.take i) (s * 2 + c) + 1:=IntWalk.i64_in _ (by omega)
    clear hp
    go_upto_region 6 with fail
    obtain ⟨pb,hpb⟩:∃ pb,pb=wr.heap.size:=⟨_,rfl⟩
    obtain ⟨W1,hW1⟩:∃ W1,W1=wr.alloc (.cells #[I Z id,I Z fr,I Z tw,I Z (s:Int),I Z (c:Int),I Z 1,I Z pl] 79):=⟨_,rfl⟩
    have lp:w.heap.size + 1 < pb:=by rw [hpb];exact F2.out.lt
    have F0:Hid (HAt W1 w.heap.size h):=by rw [hW1];exact F0.out.alloc _
    have F2:Hid (K6 W1 (w.heap.size + 1) (rc (l.take i))):=by rw [hW1];exact F2.out.alloc _
    have F3:Hid (P7 W1 pb 0 ⟨id,fr,tw,(s:Int),(c:Int),1,pl⟩):=by rw [hW1];exact P7.at_ wr ⟨id,fr,tw,(s:Int),(c:Int),1,pl⟩ _ _ hpb
    have FB:Hid (Below w.heap.size w W1):=by rw [hW1];exact FB.out.alloc FB.out.size _
    rw [← hW1,← hpb]
    clear hW1 hpb c0 c1 c2 c3 c4 c5 c6
    have F0:=zH (F0.out.below (Below.refl _ _).drew F0.out.lt)
    have F2:=zH (F2.out.below (Below.refl _ _).drew F2.out.lt)
    have F3:=zH (F3.out.below (Below.refl _ _).drew F3.out.lt)
    have FB:=zH (FB.out.drew)
    have m3:=F3.out.c3
    have m4:=F3.out.c4
    refine wp_region_held_drew (S:=(fun w''=>w''.cell? ⟨pb,0 + 3,none⟩=some (I Z (s:Int))∧w''.cell? ⟨pb,0 + 4,none⟩=some (I Z (c:Int)))) (by kernel_rfl) (by (try dsimp only);first | exact ⟨m3,m4⟩ | go_keep) (fun hHeld=>?_)
    obtain ⟨v_1,hw1⟩:∃ v_1,v_1=W1.drew:=⟨_,rfl⟩
    rw [← hw1] at F0 F2 F3 FB hHeld ⊢
    clear hw1
    have m3:=F3.out.c3
    have m4:=F3.out.c4
    refine tkz 0 rfl ?_
    refine tkz 1 rfl ?_
    refine tkz 2 rfl ?_
    refine tkz 3 rfl ?_
    refine tkz 4 rfl ?_
    refine tkz 5 rfl ?_
    refine tkz 8 rfl ?_
    refine rd1 6 (fun K hK=>?_)
    have q0:=F2.out.c (s * 2 + c) (by omega)
    go_simp
    refine kp hK (fun hHeld=>?_)
    clear hK K
    refine tkz 7 rfl ?_
    refine tkz 9 rfl ?_
    refine rd1 10 (fun K hK=>?_)
    have q1:=F2.out.c (s * 2 + c) (by omega)
    have q2:=F2.out.z (s * 2 + c) (by omega)
    go_simp
    obtain ⟨v_2,hw2⟩:∃ v_2,v_2=v_1.setCell ⟨w.heap.size + 1,(s * 2 + c),none⟩ (I Z (rc (l.take i) (s * 2 + c) + 1)):=⟨_,rfl⟩
    change K _ (v_1.setCell ⟨w.heap.size + 1,(s * 2 + c),none⟩ (I Z (rc (l.take i) (s * 2 + c) + 1)))
    rw [← hw2]
    clear q1 q2
    have F0:Hid (HAt v_2 w.heap.size h):=by rw [hw2];exact F0.out.below ((Below.refl (w.heap.size + 1) _).setCell (Nat.le_refl _) _) (by omega)
    have F2:Hid (K6 v_2 (w.heap.size + 1) (rc (l.take (i + 1)))):=by rw [hw2];exact F2.out.set (k0:=(s * 2 + c)) (by omega) HX1.out HX2.out
    have F3:Hid (P7 v_2 pb 0 ⟨id,fr,tw,(s:Int),(c:Int),1,pl⟩):=by rw [hw2];exact F3.out.other (by omega)
    have FB:Hid (Below w.heap.size w v_2):=by rw [hw2];exact FB.out.setCell (show w.heap.size≤w.heap.size + 1 by omega) _
    clear hw2
    have m3:=F3.out.c3
    have m4:=F3.out.c4
    refine kp hK (fun hHeld=>?_)
    clear hK K
    refine wpAnyH_done (by kernel_rfl) ?_ _
    go_wp2_with fail
    obtain ⟨W2,rfl⟩:∃ W2,W2=v_2:=⟨_,rfl⟩
    by_cases kl:h.ld < rc (l.take (i + 1)) (s * 2 + c)
    ·have HV:Hid (Hs.crowd h l=true):=by
      unfold Hs.crowd
      rw [over_yes (i:=i + 1) (k:=(s * 2 + c)) (by omega) kl]
      exact rfl
     have bk:decide (h.ld < rc (l.take (i + 1)) (s * 2 + c))=true:=decide_eq_true kl
     clear kl
     have F0:=zH (F0.out.below (Below.refl _ _).drew F0.out.lt)
     have F2:=zH (F2.out.below (Below.refl _ _).drew F2.out.lt)
     have F3:=zH (F3.out.below (Below.refl _ _).drew F3.out.lt)
     have FB:=zH (FB.out.drew)
     have m3:=F3.out.c3
     have m4:=F3.out.c4
     have mk:=F2.out.c (s * 2 + c) (by omega)
     have ml:=F0.out.c10
     refine wp_region_held_drew (S:=(fun w''=>w''.cell? ⟨pb,0 + 3,none⟩=some (I Z (s:Int))∧w''.cell? ⟨pb,0 + 4,none⟩=some (I Z (c:Int))∧w''.cell? ⟨(w.heap.size + 1),(s * 2 + c),none⟩=some (I Z (rc (l.take (i + 1)) (s * 2 + c)))∧w''.cell? ⟨w.heap.size,10,none⟩=some (I Z h.ld))) (by kernel_rfl) (by (try dsimp only);first | exact ⟨m3,m4,mk,ml⟩ | go_keep) (fun hHeld=>?_)
     obtain ⟨v_3,hw1⟩:∃ v_3,v_3=W2.drew:=⟨_,rfl⟩
     rw [← hw1] at F0 F2 F3 FB hHeld ⊢
     clear hw1
     have m3:=F3.out.c3
     have m4:=F3.out.c4
     have mk:=F2.out.c (s * 2 + c) (by omega)
     have ml:=F0.out.c10
     refine tkz 0 rfl ?_
     refine tkz 1 rfl ?_
     refine tkz 2 rfl ?_
     refine tkz 3 rfl ?_
     refine tkz 4 rfl ?_
     refine tkz 5 rfl ?_
     refine tkz 6 rfl ?_
     refine tkz 7 rfl ?_
     refine tkz 8 rfl ?_
     refine tkz 9 rfl ?_
     refine wpAnyH_done (by kernel_rfl) ?_ _
     go_wp2_with fail
     go_ret
     exact ⟨ret_b HV.out.symm,FB.out⟩
    ·have HN:Hid (∀ k,k < 6→rc (l.take (i + 1)) k≤h.ld):=by
      intro j hj
      by_cases e:j=(s * 2 + c)
      ·subst e;exact Int.not_lt.1 kl
      ·rw [HX2.out j e];exact HOK.out j hj
     have bk:decide (h.ld < rc (l.take (i + 1)) (s * 2 + c))=false:=decide_eq_false kl
     clear kl
     have F0:=zH (F0.out.below (Below.refl _ _).drew F0.out.lt)
     have F2:=zH (F2.out.below (Below.refl _ _).drew F2.out.lt)
     have F3:=zH (F3.out.below (Below.refl _ _).drew F3.out.lt)
     have FB:=zH (FB.out.drew)
     have m3:=F3.out.c3
     have m4:=F3.out.c4
     have mk:=F2.out.c (s * 2 + c) (by omega)
     have ml:=F0.out.c10
     refine wp_region_held_drew (S:=(fun w''=>w''.cell? ⟨pb,0 + 3,none⟩=some (I Z (s:Int))∧w''.cell? ⟨pb,0 + 4,none⟩=some (I Z (c:Int))∧w''.cell? ⟨(w.heap.size + 1),(s * 2 + c),none⟩=some (I Z (rc (l.take (i + 1)) (s * 2 + c)))∧w''.cell? ⟨w.heap.size,10,none⟩=some (I Z h.ld))) (by kernel_rfl) (by (try dsimp only);first | exact ⟨m3,m4,mk,ml⟩ | go_keep) (fun hHeld=>?_)
     obtain ⟨v_4,hw1⟩:∃ v_4,v_4=W2.drew:=⟨_,rfl⟩
     rw [← hw1] at F0 F2 F3 FB hHeld ⊢
     clear hw1
     have m3:=F3.out.c3
     have m4:=F3.out.c4
     have mk:=F2.out.c (s * 2 + c) (by omega)
     have ml:=F0.out.c10
     refine tkz 0 rfl ?_
     refine tkz 1 rfl ?_
     refine tkz 2 rfl ?_
     refine tkz 3 rfl ?_
     refine tkz 4 rfl ?_
     refine tkz 5 rfl ?_
     refine tkz 6 rfl ?_
     refine tkz 7 rfl ?_
     refine tkz 8 rfl ?_
     refine tkz 9 rfl ?_
     refine wpAnyH_done (by kernel_rfl) ?_ _
     go_wp2_with fail
     go_roundw
     case rel=>exact ⟨i + 1,by simp,by omega,F0.out,F2.out,HN.out,FB.out⟩
     case measure=>simp [intOf];omega
   ·have bs:(p.st != 1)=true:=by simpa using hst
    have HE:Hid (∀ k,rc (l.take (i + 1)) k=rc (l.take i) k):=by
     intro k
     rw [rc_take hp,if_neg,Int.add_zero]
     simp [isIn,hst]
    clear hp hst
    go_wp2_with fail
    go_roundw
    case rel=>exact ⟨i + 1,by simp,by omega,F0.out.alloc _,(show rc (l.take (i + 1))=rc (l.take i) from funext HE.out) ▸ F2.out.alloc _,fun k hk=>by rw [HE.out];exact HOK.out k hk,FB.out.alloc FB.out.size _⟩
    case measure=>simp [intOf];omega
  ·have ei:i=l.length:=by omega
   subst ei
   have HV:Hid (decide (h.qu < (cnt 0 (-1) 0 l:Int))=Hs.crowd h l):=by
    unfold Hs.crowd
    rw [over_no (fun k hk=>by have:=HOK.out k hk;rwa [List.take_length] at this)]
    exact rfl
   clear hlt hi HOK
   go_wp2_with fail
   have F0:=zH (F0.out.below (Below.refl _ _).drew F0.out.lt)
   have FB:=zH (FB.out.drew)
   have mq:=F0.out.c11
   refine wp_region_held_drew (S:=(fun w''=>w''.cell? ⟨w.heap.size,11,none⟩=some (I Z h.qu))) (by kernel_rfl) (by (try dsimp only);first | exact mq | go_keep) (fun hHeld=>?_)
   obtain ⟨v_5,hw1⟩:∃ v_5,v_5=wr.drew:=⟨_,rfl⟩
   rw [← hw1] at F0 FB hHeld ⊢
   clear hw1
   have mq:=F0.out.c11
   refine tkz 0 rfl ?_
   refine tkz 4 rfl ?_
   refine tkz 5 rfl ?_
   refine rd1 1 (fun K hK=>?_)
   go_simp
   refine (countStates_any l a cap hl (fun i p hp=>(HS.out i p hp).2.2) _ ((HP.out.below FB.out (Nat.le_refl _)).mono FB.out.size)).mono ?_
   rintro e v_6 ⟨g,rfl,ho,hb⟩
   have F0:=zH (F0.out.below hb F0.out.lt)
   have FB:=tB FB hb
   clear hb
   have mq:=F0.out.c11
   have y0:=ho.cell (i:=0) rfl
   clear ho
   try dsimp only
   refine kp hK (fun hHeld=>?_)
   clear hK K
   refine tkz 2 rfl ?_
   refine rd1 3 (fun K hK=>?_)
   go_simp
   refine kp hK (fun hHeld=>?_)
   clear hK K
   refine tkz 6 rfl ?_
   refine tkz 7 rfl ?_
   refine wpAnyH_done (by kernel_rfl) ?_ _
   go_wp2_with fail
   go_ret
   exact ⟨ret_b HV.out,FB.out⟩
end Go.Proofs.YteimojoicfjdjaaGreat
