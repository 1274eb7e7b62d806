/- Parts of the proof: PersJo, SpanJ. -/
import Derived.Test.YteimojoicfjdjaaGreatZ16
import Derived.Test.YteimojoicfjdjaaGreatZ18
import Derived.Test.YteimojoicfjdjaaGreatZ23
import Derived.Test.YteimojoicfjdjaaGreatZ29
import Derived.Test.YteimojoicfjdjaaGreatZ33
namespace Go.Proofs.YteimojoicfjdjaaGreat
set_option maxRecDepth 20000
set_option maxHeartbeats 16000000
open Value renaming int → I
open IntKind renaming i64 → Z
open Go.RowKit Pl
set_option linter.unusedSimpArgs false
set_option linter.unusedVariables false
theorem l7Board_anyO(h:Hs)(lb lo:Nat)(nx:Int)(B g n cap:Nat)(l:List Pe)(sh ca fl:Int)(hl:n≤1048576)(hne:lb ≠ g)(w:World)(hL:LAo w lb lo nx (some ⟨g,0,none⟩) n cap)(ho:Ow w B g n cap l) :
  Calls Tryz.prog 117 #[.agg #[I Z h.fl,I Z h.gp,I Z h.ln,I Z h.rf,I Z h.sp,I Z h.pu,I Z h.br,I Z h.dr,I Z h.lv,I Z h.dO,I Z h.ld,I Z h.qu],.pointer (some ⟨lb,lo,none⟩),I Z sh,I Z ca,I Z fl] w fun e w'=>e=.returned (.tuple #[])∧Ow w' B g n cap (boardS h.ld sh ca fl l n)∧w.grownBy w' (some g):=by
 have lgw:=ho.bl.2
 have llw:=hL.lt
 have HL:=zH hL
 have HO:Hid (Ow (w.alloc (.cells #[I Z h.fl,I Z h.gp,I Z h.ln,I Z h.rf,I Z h.sp,I Z h.pu,I Z h.br,I Z h.dr,I Z h.lv,I Z h.dO,I Z h.ld,I Z h.qu] 31)) B g n cap l):=ho.alloc _
 have F0:Hid (HAt (w.alloc (.cells #[I Z h.fl,I Z h.gp,I Z h.ln,I Z h.rf,I Z h.sp,I Z h.pu,I Z h.br,I Z h.dr,I Z h.lv,I Z h.dO,I Z h.ld,I Z h.qu] 31)) w.heap.size h):=HAt.new w h _
 have FG:Hid (w.grownBy (w.alloc (.cells #[I Z h.fl,I Z h.gp,I Z h.ln,I Z h.rf,I Z h.sp,I Z h.pu,I Z h.br,I Z h.dr,I Z h.lv,I Z h.dO,I Z h.ld,I Z h.qu] 31)) (some g)):=World.grownBy_alloc w _ _
 clear hL ho
 go_enter Tryz.func117,Tryz.ntmps117
 go_wp2_with fail
 go_loopw [10] (fun ii wr=>∃ i:Nat,ii=I Z i∧i≤n∧Ow wr B g n cap (boardS h.ld sh ca fl l i)∧HAt wr w.heap.size h∧w.grownBy wr (some g)) (fun ii _=>n - (intOf ii).toNat)
 case atStart=>exact ⟨0,rfl,by omega,HO.out,F0.out,FG.out⟩
 case round=>
  obtain ⟨i,rfl,hi,ho,h0,hg⟩:=hrel
  clear HO F0 FG
  obtain ⟨m,hbm⟩:∃ m,boardS h.ld sh ca fl l i=m:=⟨_,rfl⟩
  rw [hbm] at ho
  have HM:=zH hbm
  have hm:=ho.1
  have FO:=zH ho
  have F0:=zH h0
  have FG:=zH hg
  have FL:Hid (LAo wr lb lo nx (some ⟨g,0,none⟩) n cap):=HL.out.grown hg (fun e=>hne (Option.some.inj e))
  obtain ⟨g0,g1⟩:=FL.out
  clear ho h0 hg hbm
  by_cases hlt:i < n
  ·obtain ⟨p,hz⟩:∃ p,m[i]? = some p:=⟨_,List.getElem?_eq_getElem (by omega)⟩
   obtain ⟨d0,d1,d2,d3,d4,d5,d6⟩:=FO.out.p7 hz
   go_upto_region 5 with fail
   obtain ⟨pb,hpb⟩:∃ pb,pb=wr.heap.size:=⟨_,rfl⟩
   obtain ⟨W1,hW1⟩:∃ W1,W1=wr.alloc (.cells #[I Z p.id,I Z p.fr,I Z p.tw,I Z p.sh,I Z p.ca,I Z p.st,I Z p.pl] 79):=⟨_,rfl⟩
   have F0:Hid (HAt W1 w.heap.size h):=by rw [hW1];exact F0.out.below ((Below.refl _ _).alloc (Nat.le_refl _) _) F0.out.lt
   have F1:Hid (P7 W1 pb 0 p):=by rw [hW1];exact P7.at_ wr p _ pb hpb
   have FO:Hid (Ow W1 B g n cap m):=by rw [hW1];exact FO.out.alloc _
   have FL:Hid (LAo W1 lb lo nx (some ⟨g,0,none⟩) n cap):=by rw [hW1];exact FL.out.below ((Below.refl _ _).alloc (Nat.le_refl _) _) FL.out.lt
   have FG:Hid (w.grownBy W1 (some g)):=by rw [hW1];exact grown_trans FG.out (grown_new _ _ g)
   rw [← hW1,← hpb]
   clear hW1 hpb g0 g1 d0 d1 d2 d3 d4 d5 d6
   cases k0:(p.sh == sh)
   ·have HE:Hid (m=boardS h.ld sh ca fl l (i + 1)):=by
     rw [boardS_next HM.out hz,if_neg (fun q=>by obtain ⟨⟨q0,q1,q2,q3⟩,-⟩:=q;simp [q0] at k0)]
     exact rfl
    clear hz
    have F0:=zH (F0.out.below (Below.refl _ _).drew F0.out.lt)
    have F1:=zH (F1.out.below (Below.refl _ _).drew F1.out.lt)
    have FO:=zH (FO.out.below (Below.refl _ _).drew FO.out.lt)
    have FL:=zH (FL.out.below (Below.refl _ _).drew FL.out.lt)
    have FG:Hid (w.grownBy W1.drew (some g)):=gr_drew FG.out
    obtain ⟨x0_0,x0_1,x0_2,x0_3,x0_4,x0_5,x0_6,x0_7,x0_8,x0_9,x0_10,x0_11⟩:=F0.out
    have m3:=F1.out.c3
    have m4:=F1.out.c4
    have m5:=F1.out.c5
    have m1:=F1.out.c1
    refine wp_region_held_drew (S:=(fun w''=>hS w.heap.size h w''∧w''.cell? ⟨pb,3,none⟩=some (I Z p.sh)∧w''.cell? ⟨pb,4,none⟩=some (I Z p.ca)∧w''.cell? ⟨pb,5,none⟩=some (I Z p.st)∧w''.cell? ⟨pb,1,none⟩=some (I Z p.fr))) (by kernel_rfl) (by ((try dsimp only);(try simp only [hS]);first | ((repeat' apply And.intro) <;> assumption) | go_keep)) (fun hHeld=>?_)
    obtain ⟨v_1,hw1⟩:∃ v_1,v_1=W1.drew:=⟨_,rfl⟩
    rw [← hw1] at F0 F1 FO FL FG hHeld ⊢
    clear hw1
    obtain ⟨x0_0,x0_1,x0_2,x0_3,x0_4,x0_5,x0_6,x0_7,x0_8,x0_9,x0_10,x0_11⟩:=F0.out
    have m3:=F1.out.c3
    have m4:=F1.out.c4
    have m5:=F1.out.c5
    have m1:=F1.out.c1
    refine tkz 0 rfl ?_
    refine tkz 1 rfl ?_
    refine tkz 2 rfl ?_
    refine tkz 3 rfl ?_
    refine tkz 4 rfl ?_
    refine tbz 5 rfl ?_
    refine tbz 6 rfl ?_
    refine tbz 7 rfl ?_
    refine tbz 8 rfl ?_
    refine tkz 9 rfl ?_
    refine tkz 10 rfl ?_
    refine tbz 11 rfl ?_
    refine tbz 12 rfl ?_
    refine tbz 13 rfl ?_
    refine tkz 14 rfl ?_
    refine tkz 15 rfl ?_
    refine tbz 16 rfl ?_
    refine tbz 17 rfl ?_
    refine tbz 18 rfl ?_
    refine tbz 19 rfl ?_
    refine tkz 20 rfl ?_
    refine tkz 21 rfl ?_
    refine tbz 22 rfl ?_
    refine tbz 23 rfl ?_
    refine tbz 24 rfl ?_
    refine tbz 25 rfl ?_
    refine tbz 26 rfl ?_
    refine tbz 27 rfl ?_
    refine tbz 28 rfl ?_
    refine tkz 29 rfl ?_
    refine wpAnyH_done (by kernel_rfl) ?_ _
    go_wp2_with fail
    go_roundw
    case rel=>exact ⟨i + 1,by simp,by omega,HE.out ▸ FO.out,F0.out,FG.out⟩
    case measure=>simp [intOf];omega
   ·cases k1:(p.ca == ca)
    ·have HE:Hid (m=boardS h.ld sh ca fl l (i + 1)):=by
      rw [boardS_next HM.out hz,if_neg (fun q=>by obtain ⟨⟨q0,q1,q2,q3⟩,-⟩:=q;simp [q1] at k1)]
      exact rfl
     clear hz
     have F0:=zH (F0.out.below (Below.refl _ _).drew F0.out.lt)
     have F1:=zH (F1.out.below (Below.refl _ _).drew F1.out.lt)
     have FO:=zH (FO.out.below (Below.refl _ _).drew FO.out.lt)
     have FL:=zH (FL.out.below (Below.refl _ _).drew FL.out.lt)
     have FG:Hid (w.grownBy W1.drew (some g)):=gr_drew FG.out
     obtain ⟨x0_0,x0_1,x0_2,x0_3,x0_4,x0_5,x0_6,x0_7,x0_8,x0_9,x0_10,x0_11⟩:=F0.out
     have m3:=F1.out.c3
     have m4:=F1.out.c4
     have m5:=F1.out.c5
     have m1:=F1.out.c1
     refine wp_region_held_drew (S:=(fun w''=>hS w.heap.size h w''∧w''.cell? ⟨pb,3,none⟩=some (I Z p.sh)∧w''.cell? ⟨pb,4,none⟩=some (I Z p.ca)∧w''.cell? ⟨pb,5,none⟩=some (I Z p.st)∧w''.cell? ⟨pb,1,none⟩=some (I Z p.fr))) (by kernel_rfl) (by ((try dsimp only);(try simp only [hS]);first | ((repeat' apply And.intro) <;> assumption) | go_keep)) (fun hHeld=>?_)
     obtain ⟨v_2,hw1⟩:∃ v_2,v_2=W1.drew:=⟨_,rfl⟩
     rw [← hw1] at F0 F1 FO FL FG hHeld ⊢
     clear hw1
     obtain ⟨x0_0,x0_1,x0_2,x0_3,x0_4,x0_5,x0_6,x0_7,x0_8,x0_9,x0_10,x0_11⟩:=F0.out
     have m3:=F1.out.c3
     have m4:=F1.out.c4
     have m5:=F1.out.c5
     have m1:=F1.out.c1
     refine tkz 0 rfl ?_
     refine tkz 1 rfl ?_
     refine tkz 2 rfl ?_
     refine tkz 3 rfl ?_
     refine tkz 4 rfl ?_
     refine tkz 5 rfl ?_
     refine tkz 6 rfl ?_
     refine tkz 7 rfl ?_
     refine tkz 8 rfl ?_
     refine tkz 9 rfl ?_
     refine tkz 10 rfl ?_
     refine tbz 11 rfl ?_
     refine tbz 12 rfl ?_
     refine tbz 13 rfl ?_
     refine tkz 14 rfl ?_
     refine tkz 15 rfl ?_
     refine tbz 16 rfl ?_
     refine tbz 17 rfl ?_
     refine tbz 18 rfl ?_
     refine tbz 19 rfl ?_
     refine tkz 20 rfl ?_
     refine tkz 21 rfl ?_
     refine tbz 22 rfl ?_
     refine tbz 23 rfl ?_
     refine tbz 24 rfl ?_
     refine tbz 25 rfl ?_
     refine tbz 26 rfl ?_
     refine tbz 27 rfl ?_
     refine tbz 28 rfl ?_
     refine tkz 29 rfl ?_
     refine wpAnyH_done (by kernel_rfl) ?_ _
     go_wp2_with fail
     go_roundw
     case rel=>exact ⟨i + 1,by simp,by omega,HE.out ▸ FO.out,F0.out,FG.out⟩
     case measure=>simp [intOf];omega
    ·cases k2:(p.st == 0)
     ·have HE:Hid (m=boardS h.ld sh ca fl l (i + 1)):=by
       rw [boardS_next HM.out hz,if_neg (fun q=>by obtain ⟨⟨q0,q1,q2,q3⟩,-⟩:=q;simp [q2] at k2)]
       exact rfl
      clear hz
      have F0:=zH (F0.out.below (Below.refl _ _).drew F0.out.lt)
      have F1:=zH (F1.out.below (Below.refl _ _).drew F1.out.lt)
      have FO:=zH (FO.out.below (Below.refl _ _).drew FO.out.lt)
      have FL:=zH (FL.out.below (Below.refl _ _).drew FL.out.lt)
      have FG:Hid (w.grownBy W1.drew (some g)):=gr_drew FG.out
      obtain ⟨x0_0,x0_1,x0_2,x0_3,x0_4,x0_5,x0_6,x0_7,x0_8,x0_9,x0_10,x0_11⟩:=F0.out
      have m3:=F1.out.c3
      have m4:=F1.out.c4
      have m5:=F1.out.c5
      have m1:=F1.out.c1
      refine wp_region_held_drew (S:=(fun w''=>hS w.heap.size h w''∧w''.cell? ⟨pb,3,none⟩=some (I Z p.sh)∧w''.cell? ⟨pb,4,none⟩=some (I Z p.ca)∧w''.cell? ⟨pb,5,none⟩=some (I Z p.st)∧w''.cell? ⟨pb,1,none⟩=some (I Z p.fr))) (by kernel_rfl) (by ((try dsimp only);(try simp only [hS]);first | ((repeat' apply And.intro) <;> assumption) | go_keep)) (fun hHeld=>?_)
      obtain ⟨v_3,hw1⟩:∃ v_3,v_3=W1.drew:=⟨_,rfl⟩
      rw [← hw1] at F0 F1 FO FL FG hHeld ⊢
      clear hw1
      obtain ⟨x0_0,x0_1,x0_2,x0_3,x0_4,x0_5,x0_6,x0_7,x0_8,x0_9,x0_10,x0_11⟩:=F0.out
      have m3:=F1.out.c3
      have m4:=F1.out.c4
      have m5:=F1.out.c5
      have m1:=F1.out.c1
      refine tkz 0 rfl ?_
      refine tkz 1 rfl ?_
      refine tkz 2 rfl ?_
      refine tkz 3 rfl ?_
      refine tkz 4 rfl ?_
      refine tkz 5 rfl ?_
      refine tkz 6 rfl ?_
      refine tkz 7 rfl ?_
      refine tkz 8 rfl ?_
      refine tkz 9 rfl ?_
      refine tkz 10 rfl ?_
      refine tkz 11 rfl ?_
      refine tkz 12 rfl ?_
      refine tkz 13 rfl ?_
      refine tkz 14 rfl ?_
      refine tkz 15 rfl ?_
      refine tbz 16 rfl ?_
      refine tbz 17 rfl ?_
      refine tbz 18 rfl ?_
      refine tbz 19 rfl ?_
      refine tkz 20 rfl ?_
      refine tkz 21 rfl ?_
      refine tbz 22 rfl ?_
      refine tbz 23 rfl ?_
      refine tbz 24 rfl ?_
      refine tbz 25 rfl ?_
      refine tbz 26 rfl ?_
      refine tbz 27 rfl ?_
      refine tbz 28 rfl ?_
      refine tkz 29 rfl ?_
      refine wpAnyH_done (by kernel_rfl) ?_ _
      go_wp2_with fail
      go_roundw
      case rel=>exact ⟨i + 1,by simp,by omega,HE.out ▸ FO.out,F0.out,FG.out⟩
      case measure=>simp [intOf];omega
     ·cases k3:(p.fr == fl)
      ·have HE:Hid (m=boardS h.ld sh ca fl l (i + 1)):=by
        rw [boardS_next HM.out hz,if_neg (fun q=>by obtain ⟨⟨q0,q1,q2,q3⟩,-⟩:=q;simp [q3] at k3)]
        exact rfl
       clear hz
       have F0:=zH (F0.out.below (Below.refl _ _).drew F0.out.lt)
       have F1:=zH (F1.out.below (Below.refl _ _).drew F1.out.lt)
       have FO:=zH (FO.out.below (Below.refl _ _).drew FO.out.lt)
       have FL:=zH (FL.out.below (Below.refl _ _).drew FL.out.lt)
       have FG:Hid (w.grownBy W1.drew (some g)):=gr_drew FG.out
       obtain ⟨x0_0,x0_1,x0_2,x0_3,x0_4,x0_5,x0_6,x0_7,x0_8,x0_9,x0_10,x0_11⟩:=F0.out
       have m3:=F1.out.c3
       have m4:=F1.out.c4
       have m5:=F1.out.c5
       have m1:=F1.out.c1
       refine wp_region_held_drew (S:=(fun w''=>hS w.heap.size h w''∧w''.cell? ⟨pb,3,none⟩=some (I Z p.sh)∧w''.cell? ⟨pb,4,none⟩=some (I Z p.ca)∧w''.cell? ⟨pb,5,none⟩=some (I Z p.st)∧w''.cell? ⟨pb,1,none⟩=some (I Z p.fr))) (by kernel_rfl) (by ((try dsimp only);(try simp only [hS]);first | ((repeat' apply And.intro) <;> assumption) | go_keep)) (fun hHeld=>?_)
       obtain ⟨v_4,hw1⟩:∃ v_4,v_4=W1.drew:=⟨_,rfl⟩
       rw [← hw1] at F0 F1 FO FL FG hHeld ⊢
       clear hw1
       obtain ⟨x0_0,x0_1,x0_2,x0_3,x0_4,x0_5,x0_6,x0_7,x0_8,x0_9,x0_10,x0_11⟩:=F0.out
       have m3:=F1.out.c3
       have m4:=F1.out.c4
       have m5:=F1.out.c5
       have m1:=F1.out.c1
       refine tkz 0 rfl ?_
       refine tkz 1 rfl ?_
       refine tkz 2 rfl ?_
       refine tkz 3 rfl ?_
       refine tkz 4 rfl ?_
       refine tkz 5 rfl ?_
       refine tkz 6 rfl ?_
       refine tkz 7 rfl ?_
       refine tkz 8 rfl ?_
       refine tkz 9 rfl ?_
       refine tkz 10 rfl ?_
       refine tkz 11 rfl ?_
       refine tkz 12 rfl ?_
       refine tkz 13 rfl ?_
       refine tkz 14 rfl ?_
       refine tkz 15 rfl ?_
       refine tkz 16 rfl ?_
       refine tkz 17 rfl ?_
       refine tkz 18 rfl ?_
       refine tkz 19 rfl ?_
       refine tkz 20 rfl ?_
       refine tkz 21 rfl ?_
       refine tbz 22 rfl ?_
       refine tbz 23 rfl ?_
       refine tbz 24 rfl ?_
       refine tbz 25 rfl ?_
       refine tbz 26 rfl ?_
       refine tbz 27 rfl ?_
       refine tbz 28 rfl ?_
       refine tkz 29 rfl ?_
       refine wpAnyH_done (by kernel_rfl) ?_ _
       go_wp2_with fail
       go_roundw
       case rel=>exact ⟨i + 1,by simp,by omega,HE.out ▸ FO.out,F0.out,FG.out⟩
       case measure=>simp [intOf];omega
      ·by_cases kc:(cnt 1 sh ca m:Int) < h.ld
       ·have b4:decide ((cnt 1 sh ca m:Int) < h.ld)=true:=decide_eq_true kc
        have HE:Hid (m.set i (boardP p)=boardS h.ld sh ca fl l (i + 1)):=by
         rw [boardS_next HM.out hz,if_pos ⟨⟨by simpa using k0,by simpa using k1,by simpa using k2,by simpa using k3⟩,kc⟩]
         exact rfl
        have HZ:=zH hz
        clear hz kc
        have F0:=zH (F0.out.below (Below.refl _ _).drew F0.out.lt)
        have F1:=zH (F1.out.below (Below.refl _ _).drew F1.out.lt)
        have FO:=zH (FO.out.below (Below.refl _ _).drew FO.out.lt)
        have FL:=zH (FL.out.below (Below.refl _ _).drew FL.out.lt)
        have FG:Hid (w.grownBy W1.drew (some g)):=gr_drew FG.out
        obtain ⟨x0_0,x0_1,x0_2,x0_3,x0_4,x0_5,x0_6,x0_7,x0_8,x0_9,x0_10,x0_11⟩:=F0.out
        have m3:=F1.out.c3
        have m4:=F1.out.c4
        have m5:=F1.out.c5
        have m1:=F1.out.c1
        refine wp_region_held_drew (S:=(fun w''=>hS w.heap.size h w''∧w''.cell? ⟨pb,3,none⟩=some (I Z p.sh)∧w''.cell? ⟨pb,4,none⟩=some (I Z p.ca)∧w''.cell? ⟨pb,5,none⟩=some (I Z p.st)∧w''.cell? ⟨pb,1,none⟩=some (I Z p.fr))) (by kernel_rfl) (by ((try dsimp only);(try simp only [hS]);first | ((repeat' apply And.intro) <;> assumption) | go_keep)) (fun hHeld=>?_)
        obtain ⟨v_5,hw1⟩:∃ v_5,v_5=W1.drew:=⟨_,rfl⟩
        rw [← hw1] at F0 F1 FO FL FG hHeld ⊢
        clear hw1
        obtain ⟨x0_0,x0_1,x0_2,x0_3,x0_4,x0_5,x0_6,x0_7,x0_8,x0_9,x0_10,x0_11⟩:=F0.out
        have m3:=F1.out.c3
        have m4:=F1.out.c4
        have m5:=F1.out.c5
        have m1:=F1.out.c1
        refine tkz 0 rfl ?_
        refine tkz 1 rfl ?_
        refine tkz 2 rfl ?_
        refine tkz 3 rfl ?_
        refine tkz 4 rfl ?_
        refine tkz 5 rfl ?_
        refine tkz 6 rfl ?_
        refine tkz 7 rfl ?_
        refine tkz 8 rfl ?_
        refine tkz 9 rfl ?_
        refine tkz 10 rfl ?_
        refine tkz 11 rfl ?_
        refine tkz 12 rfl ?_
        refine tkz 13 rfl ?_
        refine tkz 14 rfl ?_
        refine tkz 15 rfl ?_
        refine tkz 16 rfl ?_
        refine tkz 17 rfl ?_
        refine tkz 18 rfl ?_
        refine tkz 19 rfl ?_
        refine tkz 20 rfl ?_
        refine tkz 21 rfl ?_
        refine tkz 22 rfl ?_
        refine tkz 23 rfl ?_
        refine tkz 24 rfl ?_
        refine tkz 26 rfl ?_
        refine tkz 27 rfl ?_
        refine rd1 25 (fun K hK=>?_)
        go_simp
        refine (l7Count_anyO lb lo nx (some ⟨g,0,none⟩) cap m 1 sh ca (by rw [hm];exact hl) _ (hm.symm ▸ FL.out) (FO.out.pin FO.out.lt)).mono ?_
        rintro e v_6 ⟨rfl,hb⟩
        have F0:=zH (F0.out.below hb F0.out.lt)
        have F1:=zH (F1.out.below hb F1.out.lt)
        have FO:=zH (FO.out.below hb FO.out.lt)
        have FL:=zH (FL.out.below hb FL.out.lt)
        have FG:Hid (w.grownBy v_6 (some g)):=gr_below FG.out hb
        clear hb
        obtain ⟨x0_0,x0_1,x0_2,x0_3,x0_4,x0_5,x0_6,x0_7,x0_8,x0_9,x0_10,x0_11⟩:=F0.out
        have m3:=F1.out.c3
        have m4:=F1.out.c4
        have m5:=F1.out.c5
        have m1:=F1.out.c1
        try dsimp only
        refine kp hK (fun hHeld=>?_)
        clear hK K
        refine tkz 28 rfl ?_
        refine tkz 29 rfl ?_
        refine wpAnyH_done (by kernel_rfl) ?_ _
        obtain ⟨u0,u1,u2,u3,u4,u5,u6⟩:=FO.out.p7 HZ.out
        have uz:=FO.out.fz (i * 7 + 5)
        obtain ⟨v0_,v1_⟩:=FL.out
        go_wp2_with fail
        go_roundw
        case rel=>exact ⟨i + 1,by simp,by omega,HE.out ▸ FO.out.set (k:=5) (u:=I Z 1) (q:=boardP p) HZ.out (by omega) rfl,F0.out.grown (grown_set1 _ g _ _) (fun e=>by have e2:w.heap.size=g:=Option.some.inj e;omega),grown_trans FG.out (grown_set1 _ g _ _)⟩
        case measure=>simp [intOf];omega
       ·have b4:decide ((cnt 1 sh ca m:Int) < h.ld)=false:=decide_eq_false kc
        have HE:Hid (m=boardS h.ld sh ca fl l (i + 1)):=by
         rw [boardS_next HM.out hz,if_neg (fun q=>kc q.2)]
         exact rfl
        clear hz kc
        have F0:=zH (F0.out.below (Below.refl _ _).drew F0.out.lt)
        have F1:=zH (F1.out.below (Below.refl _ _).drew F1.out.lt)
        have FO:=zH (FO.out.below (Below.refl _ _).drew FO.out.lt)
        have FL:=zH (FL.out.below (Below.refl _ _).drew FL.out.lt)
        have FG:Hid (w.grownBy W1.drew (some g)):=gr_drew FG.out
        obtain ⟨x0_0,x0_1,x0_2,x0_3,x0_4,x0_5,x0_6,x0_7,x0_8,x0_9,x0_10,x0_11⟩:=F0.out
        have m3:=F1.out.c3
        have m4:=F1.out.c4
        have m5:=F1.out.c5
        have m1:=F1.out.c1
        refine wp_region_held_drew (S:=(fun w''=>hS w.heap.size h w''∧w''.cell? ⟨pb,3,none⟩=some (I Z p.sh)∧w''.cell? ⟨pb,4,none⟩=some (I Z p.ca)∧w''.cell? ⟨pb,5,none⟩=some (I Z p.st)∧w''.cell? ⟨pb,1,none⟩=some (I Z p.fr))) (by kernel_rfl) (by ((try dsimp only);(try simp only [hS]);first | ((repeat' apply And.intro) <;> assumption) | go_keep)) (fun hHeld=>?_)
        obtain ⟨v_7,hw1⟩:∃ v_7,v_7=W1.drew:=⟨_,rfl⟩
        rw [← hw1] at F0 F1 FO FL FG hHeld ⊢
        clear hw1
        obtain ⟨x0_0,x0_1,x0_2,x0_3,x0_4,x0_5,x0_6,x0_7,x0_8,x0_9,x0_10,x0_11⟩:=F0.out
        have m3:=F1.out.c3
        have m4:=F1.out.c4
        have m5:=F1.out.c5
        have m1:=F1.out.c1
        refine tkz 0 rfl ?_
        refine tkz 1 rfl ?_
        refine tkz 2 rfl ?_
        refine tkz 3 rfl ?_
        refine tkz 4 rfl ?_
        refine tkz 5 rfl ?_
        refine tkz 6 rfl ?_
        refine tkz 7 rfl ?_
        refine tkz 8 rfl ?_
        refine tkz 9 rfl ?_
        refine tkz 10 rfl ?_
        refine tkz 11 rfl ?_
        refine tkz 12 rfl ?_
        refine tkz 13 rfl ?_
        refine tkz 14 rfl ?_
        refine tkz 15 rfl ?_
        refine tkz 16 rfl ?_
        refine tkz 17 rfl ?_
        refine tkz 18 rfl ?_
        refine tkz 19 rfl ?_
        refine tkz 20 rfl ?_
        refine tkz 21 rfl ?_
        refine tkz 22 rfl ?_
        refine tkz 23 rfl ?_
        refine tkz 24 rfl ?_
        refine tkz 26 rfl ?_
        refine tkz 27 rfl ?_
        refine rd1 25 (fun K hK=>?_)
        go_simp
        refine (l7Count_anyO lb lo nx (some ⟨g,0,none⟩) cap m 1 sh ca (by rw [hm];exact hl) _ (hm.symm ▸ FL.out) (FO.out.pin FO.out.lt)).mono ?_
        rintro e v_8 ⟨rfl,hb⟩
        have F0:=zH (F0.out.below hb F0.out.lt)
        have F1:=zH (F1.out.below hb F1.out.lt)
        have FO:=zH (FO.out.below hb FO.out.lt)
        have FL:=zH (FL.out.below hb FL.out.lt)
        have FG:Hid (w.grownBy v_8 (some g)):=gr_below FG.out hb
        clear hb
        obtain ⟨x0_0,x0_1,x0_2,x0_3,x0_4,x0_5,x0_6,x0_7,x0_8,x0_9,x0_10,x0_11⟩:=F0.out
        have m3:=F1.out.c3
        have m4:=F1.out.c4
        have m5:=F1.out.c5
        have m1:=F1.out.c1
        try dsimp only
        refine kp hK (fun hHeld=>?_)
        clear hK K
        refine tkz 28 rfl ?_
        refine tkz 29 rfl ?_
        refine wpAnyH_done (by kernel_rfl) ?_ _
        go_wp2_with fail
        go_roundw
        case rel=>exact ⟨i + 1,by simp,by omega,HE.out ▸ FO.out,F0.out,FG.out⟩
        case measure=>simp [intOf];omega
  ·have ei:i=n:=by omega
   subst ei
   have HX_:Hid (Ow wr B g i cap (boardS h.ld sh ca fl l i)):=HM.out.symm ▸ FO.out
   clear FO
   go_wp2_with fail
   go_end0
   exact ⟨rfl,HX_.out,FG.out⟩
set_option linter.unusedSimpArgs false
set_option linter.unusedVariables false
theorem lowestStop_at(h:Hs)(c:Cs)(k:CarOk h c)(v:Int)(hv:h.lo c.pos c.vel=v)(w:World) :
  Calls Tryz.prog 128 #[.agg #[I Z h.fl,I Z h.gp,I Z h.ln,I Z h.rf,I Z h.sp,I Z h.pu,I Z h.br,I Z h.dr,I Z h.lv,I Z h.dO,I Z h.ld,I Z h.qu],.agg #[I Z c.pos,I Z c.vel,I Z c.door]] w fun e w'=>e=.returned (I Z v)∧Below w.heap.size w w':=by
 have en:=car_env k
 subst hv
 exact lowestStop_any h k.ok c (by omega) (by omega) (by omega) (by omega) w
theorem highestStop_at(h:Hs)(c:Cs)(k:CarOk h c)(v:Int)(hv:h.hi c.pos c.vel=v)(w:World) :
  Calls Tryz.prog 126 #[.agg #[I Z h.fl,I Z h.gp,I Z h.ln,I Z h.rf,I Z h.sp,I Z h.pu,I Z h.br,I Z h.dr,I Z h.lv,I Z h.dO,I Z h.ld,I Z h.qu],.agg #[I Z c.pos,I Z c.vel,I Z c.door]] w fun e w'=>e=.returned (I Z v)∧Below w.heap.size w w':=by
 have en:=car_env k
 subst hv
 exact highestStop_any h k.ok c (by omega) (by omega) (by omega) (by omega) w
theorem coverOf_any(h:Hs)(c:Cs)(k:CarOk h c)(g:Sp)(hg:Hs.cover h c=g)(w:World) :
  Calls Tryz.prog 152 #[.agg #[I Z h.fl,I Z h.gp,I Z h.ln,I Z h.rf,I Z h.sp,I Z h.pu,I Z h.br,I Z h.dr,I Z h.lv,I Z h.dO,I Z h.ld,I Z h.qu],.agg #[I Z c.pos,I Z c.vel,I Z c.door]] w fun e w'=>e=.returned (.agg #[I Z g.lo,I Z g.hi])∧Below w.heap.size w w':=by
 have o:=k.ok
 have en:=car_env k
 have f1:=o.fl1;have f2:=o.fl2;have v1:=o.lv1;have v2:=o.lv2
 have e0:IntKind.i64.wrap (h.fl + 1)=h.fl + 1:=IntWalk.i64_in _ (by omega)
 obtain ⟨lw,hlw⟩:∃ lw,h.lo c.pos c.vel=lw:=⟨_,rfl⟩
 obtain ⟨hg_,hhg⟩:∃ hg_,h.hi c.pos c.vel=hg_:=⟨_,rfl⟩
 unfold Hs.cover at hg
 rw [hlw,hhg] at hg
 have HGv:=zH hg
 have HLW:=zH hlw
 have HHG:=zH hhg
 have HO:Hid h.Ok:=o
 have HK:=zH k
 have HS:Hid (Hs.covLo h lw ((0:Int) + 1).toNat=-1):=by
  show (if _ then _ else _)=(-1:Int)
  split <;> rfl
 clear o k hlw hhg hg en
 have F0:Hid (HAt ((((w.alloc (.cells #[I Z h.fl,I Z h.gp,I Z h.ln,I Z h.rf,I Z h.sp,I Z h.pu,I Z h.br,I Z h.dr,I Z h.lv,I Z h.dO,I Z h.ld,I Z h.qu] 31)).alloc (.cells #[I Z c.pos,I Z c.vel,I Z c.door] 65)).alloc (.cells #[I Z 0,I Z 0] 69)).alloc (.cells #[I Z (-1),I Z h.fl] 69)) w.heap.size h):=(((HAt.at_ w h _ _ (by simp)).alloc _).alloc _).alloc _
 have F1:Hid (CW ((((w.alloc (.cells #[I Z h.fl,I Z h.gp,I Z h.ln,I Z h.rf,I Z h.sp,I Z h.pu,I Z h.br,I Z h.dr,I Z h.lv,I Z h.dO,I Z h.ld,I Z h.qu] 31)).alloc (.cells #[I Z c.pos,I Z c.vel,I Z c.door] 65)).alloc (.cells #[I Z 0,I Z 0] 69)).alloc (.cells #[I Z (-1),I Z h.fl] 69)) (w.heap.size + 1) c):=((CW.at_ _ c _ _ (by simp)).alloc _).alloc _
 have F2:Hid (MW ((((w.alloc (.cells #[I Z h.fl,I Z h.gp,I Z h.ln,I Z h.rf,I Z h.sp,I Z h.pu,I Z h.br,I Z h.dr,I Z h.lv,I Z h.dO,I Z h.ld,I Z h.qu] 31)).alloc (.cells #[I Z c.pos,I Z c.vel,I Z c.door] 65)).alloc (.cells #[I Z 0,I Z 0] 69)).alloc (.cells #[I Z (-1),I Z h.fl] 69)) (w.heap.size + 2) (⟨0,0⟩:Sp)):=(MW.at_ _ ⟨0,0⟩ _ _ (by simp)).alloc _
 have F3:Hid (MW ((((w.alloc (.cells #[I Z h.fl,I Z h.gp,I Z h.ln,I Z h.rf,I Z h.sp,I Z h.pu,I Z h.br,I Z h.dr,I Z h.lv,I Z h.dO,I Z h.ld,I Z h.qu] 31)).alloc (.cells #[I Z c.pos,I Z c.vel,I Z c.door] 65)).alloc (.cells #[I Z 0,I Z 0] 69)).alloc (.cells #[I Z (-1),I Z h.fl] 69)) (w.heap.size + 3) (⟨-1,h.fl⟩:Sp)):=MW.at_ _ ⟨-1,h.fl⟩ _ _ (by simp)
 have FB:Hid (Below w.heap.size w ((((w.alloc (.cells #[I Z h.fl,I Z h.gp,I Z h.ln,I Z h.rf,I Z h.sp,I Z h.pu,I Z h.br,I Z h.dr,I Z h.lv,I Z h.dO,I Z h.ld,I Z h.qu] 31)).alloc (.cells #[I Z c.pos,I Z c.vel,I Z c.door] 65)).alloc (.cells #[I Z 0,I Z 0] 69)).alloc (.cells #[I Z (-1),I Z h.fl] 69))):=((((Below.refl _ _).alloc (Nat.le_refl _) _).alloc (by simp) _).alloc (by simp;omega) _).alloc (by simp;omega) _
 obtain ⟨W0,hW0⟩:∃ W0,W0=((((w.alloc (.cells #[I Z h.fl,I Z h.gp,I Z h.ln,I Z h.rf,I Z h.sp,I Z h.pu,I Z h.br,I Z h.dr,I Z h.lv,I Z h.dO,I Z h.ld,I Z h.qu] 31)).alloc (.cells #[I Z c.pos,I Z c.vel,I Z c.door] 65)).alloc (.cells #[I Z 0,I Z 0] 69)).alloc (.cells #[I Z (-1),I Z h.fl] 69)):=⟨_,rfl⟩
 rw [← hW0] at F0 F1 F2 F3 FB
 have HW0:=zH hW0
 clear hW0
 go_enter Tryz.func152,Tryz.ntmps152
 go_upto_region 2 with fail
 rw [← HW0.out]
 clear HW0
 obtain ⟨x0_0,x0_1,x0_2,x0_3,x0_4,x0_5,x0_6,x0_7,x0_8,x0_9,x0_10,x0_11⟩:=F0.out
 go_wp2_with fail
 go_loopw [14] (fun nn wr=>∃ z:Int,nn=I Z z∧0≤z∧z≤h.fl + 1∧HAt wr w.heap.size h∧CW wr (w.heap.size + 1) c∧MW wr (w.heap.size + 2) (⟨0,0⟩:Sp)∧MW wr (w.heap.size + 3) (⟨Hs.covLo h lw (z + 1).toNat,h.fl⟩:Sp)∧Below w.heap.size w wr) (fun nn _=>(h.fl + 1 - intOf nn).toNat)
 case atStart=>exact ⟨0,rfl,by omega,by omega,F0.out,F1.out,F2.out,by rw [HS.out];exact F3.out,FB.out⟩
 case round=>
  clear HS
  obtain ⟨z,rfl,n1,n2,h0,h1,h2,h3,h4⟩:=hrel
  have F0:=zH h0
  have F1:=zH h1
  have F2:=zH h2
  have F3:=zH h3
  have FB:=zH h4
  clear h0 h1 h2 h3 h4
  obtain ⟨x0_0,x0_1,x0_2,x0_3,x0_4,x0_5,x0_6,x0_7,x0_8,x0_9,x0_10,x0_11⟩:=F0.out
  obtain ⟨x1_0,x1_1,x1_2,y1_0,y1_1,y1_2⟩:=F1.out
  by_cases hlt:z < h.fl + 1
  ·obtain ⟨b1,b2⟩:=HO.out.level_bd z (by omega) (by omega)
   have ew:IntKind.i64.wrap (h.level z - h.lv)=h.level z - h.lv:=IntWalk.i64_in _ (by omega)
   have ez:IntKind.i64.wrap (z + 1)=z + 1:=IntWalk.i64_in _ (by omega)
   go_wp2_with fail
   by_cases hd:h.level z - h.lv≤lw
   ·have hd':decide (h.level z - h.lv≤lw)=true:=decide_eq_true hd
    have HD:=zH hd
    clear hd
    have F0:=zH (F0.out.below (Below.refl _ _).drew F0.out.lt)
    have F1:=zH (F1.out.below (Below.refl _ _).drew F1.out.lt)
    have F2:=zH (F2.out.below (Below.refl _ _).drew F2.out.lt)
    have F3:=zH (F3.out.below (Below.refl _ _).drew F3.out.lt)
    have FB:=zH (FB.out.drew)
    obtain ⟨x0_0,x0_1,x0_2,x0_3,x0_4,x0_5,x0_6,x0_7,x0_8,x0_9,x0_10,x0_11⟩:=F0.out
    obtain ⟨x1_0,x1_1,x1_2,y1_0,y1_1,y1_2⟩:=F1.out
    refine wp_region_held_drew (S:=(fun w''=>hS w.heap.size h w''∧w''.cell? ⟨(w.heap.size + 1),0,none⟩=some (I Z c.pos)∧w''.cell? ⟨(w.heap.size + 1),1,none⟩=some (I Z c.vel)∧w''.cell? ⟨(w.heap.size + 1),2,none⟩=some (I Z c.door))) (by kernel_rfl) (by ((try dsimp only);(try simp only [hS]);first | ((repeat' apply And.intro) <;> assumption) | go_keep)) (fun hHeld=>?_)
    obtain ⟨v_1,hw1⟩:∃ v_1,v_1=wr.drew:=⟨_,rfl⟩
    rw [← hw1] at F0 F1 F2 F3 FB hHeld ⊢
    clear hw1
    obtain ⟨x0_0,x0_1,x0_2,x0_3,x0_4,x0_5,x0_6,x0_7,x0_8,x0_9,x0_10,x0_11⟩:=F0.out
    obtain ⟨x1_0,x1_1,x1_2,y1_0,y1_1,y1_2⟩:=F1.out
    refine tkz 0 rfl ?_
    refine tkz 1 rfl ?_
    refine tkz 3 rfl ?_
    refine tkz 4 rfl ?_
    refine tkz 6 rfl ?_
    refine tkz 7 rfl ?_
    refine rd1 2 (fun K hK=>?_)
    go_simp
    refine (placeOf_any h HO.out z (by omega) (by omega) _).mono ?_
    rintro e v_2 ⟨rfl,hb⟩
    have F0:=zH (F0.out.below hb F0.out.lt)
    have F1:=zH (F1.out.below hb F1.out.lt)
    have F2:=zH (F2.out.below hb F2.out.lt)
    have F3:=zH (F3.out.below hb F3.out.lt)
    have FB:=tB FB hb
    clear hb
    obtain ⟨x0_0,x0_1,x0_2,x0_3,x0_4,x0_5,x0_6,x0_7,x0_8,x0_9,x0_10,x0_11⟩:=F0.out
    obtain ⟨x1_0,x1_1,x1_2,y1_0,y1_1,y1_2⟩:=F1.out
    try dsimp only
    refine kp hK (fun hHeld=>?_)
    clear hK K
    refine tkz 5 rfl ?_
    refine rd1 8 (fun K hK=>?_)
    go_simp
    refine (lowestStop_at h c HK.out lw HLW.out _).mono ?_
    rintro e v_3 ⟨rfl,hb⟩
    have F0:=zH (F0.out.below hb F0.out.lt)
    have F1:=zH (F1.out.below hb F1.out.lt)
    have F2:=zH (F2.out.below hb F2.out.lt)
    have F3:=zH (F3.out.below hb F3.out.lt)
    have FB:=tB FB hb
    clear hb
    obtain ⟨x0_0,x0_1,x0_2,x0_3,x0_4,x0_5,x0_6,x0_7,x0_8,x0_9,x0_10,x0_11⟩:=F0.out
    obtain ⟨x1_0,x1_1,x1_2,y1_0,y1_1,y1_2⟩:=F1.out
    try dsimp only
    refine kp hK (fun hHeld=>?_)
    clear hK K
    refine tkz 9 rfl ?_
    refine wpAnyH_done (by kernel_rfl) ?_ _
    obtain ⟨r0,r1,r2,r3⟩:=F3.out
    try dsimp only at r0 r1
    go_wp2_with fail
    go_roundw
    case rel=>exact ⟨z + 1,rfl,by omega,by omega,F0.out.below ((Below.refl _ _).setCell (Nat.le_refl _) _) (by (try dsimp only);omega),F1.out.other (by omega),F2.out.other (by omega),by rw [covLo_yes (by omega) HD.out];exact F3.out.set0 z,FB.out.setCell (by (try dsimp only);omega) _⟩
    case measure=>simp [intOf];omega
   ·have hd':decide (h.level z - h.lv≤lw)=false:=decide_eq_false hd
    have HD:=zH hd
    clear hd
    have F0:=zH (F0.out.below (Below.refl _ _).drew F0.out.lt)
    have F1:=zH (F1.out.below (Below.refl _ _).drew F1.out.lt)
    have F2:=zH (F2.out.below (Below.refl _ _).drew F2.out.lt)
    have F3:=zH (F3.out.below (Below.refl _ _).drew F3.out.lt)
    have FB:=zH (FB.out.drew)
    obtain ⟨x0_0,x0_1,x0_2,x0_3,x0_4,x0_5,x0_6,x0_7,x0_8,x0_9,x0_10,x0_11⟩:=F0.out
    obtain ⟨x1_0,x1_1,x1_2,y1_0,y1_1,y1_2⟩:=F1.out
    refine wp_region_held_drew (S:=(fun w''=>hS w.heap.size h w''∧w''.cell? ⟨(w.heap.size + 1),0,none⟩=some (I Z c.pos)∧w''.cell? ⟨(w.heap.size + 1),1,none⟩=some (I Z c.vel)∧w''.cell? ⟨(w.heap.size + 1),2,none⟩=some (I Z c.door))) (by kernel_rfl) (by ((try dsimp only);(try simp only [hS]);first | ((repeat' apply And.intro) <;> assumption) | go_keep)) (fun hHeld=>?_)
    obtain ⟨v_4,hw1⟩:∃ v_4,v_4=wr.drew:=⟨_,rfl⟩
    rw [← hw1] at F0 F1 F2 F3 FB hHeld ⊢
    clear hw1
    obtain ⟨x0_0,x0_1,x0_2,x0_3,x0_4,x0_5,x0_6,x0_7,x0_8,x0_9,x0_10,x0_11⟩:=F0.out
    obtain ⟨x1_0,x1_1,x1_2,y1_0,y1_1,y1_2⟩:=F1.out
    refine tkz 0 rfl ?_
    refine tkz 1 rfl ?_
    refine tkz 3 rfl ?_
    refine tkz 4 rfl ?_
    refine tkz 6 rfl ?_
    refine tkz 7 rfl ?_
    refine rd1 2 (fun K hK=>?_)
    go_simp
    refine (placeOf_any h HO.out z (by omega) (by omega) _).mono ?_
    rintro e v_5 ⟨rfl,hb⟩
    have F0:=zH (F0.out.below hb F0.out.lt)
    have F1:=zH (F1.out.below hb F1.out.lt)
    have F2:=zH (F2.out.below hb F2.out.lt)
    have F3:=zH (F3.out.below hb F3.out.lt)
    have FB:=tB FB hb
    clear hb
    obtain ⟨x0_0,x0_1,x0_2,x0_3,x0_4,x0_5,x0_6,x0_7,x0_8,x0_9,x0_10,x0_11⟩:=F0.out
    obtain ⟨x1_0,x1_1,x1_2,y1_0,y1_1,y1_2⟩:=F1.out
    try dsimp only
    refine kp hK (fun hHeld=>?_)
    clear hK K
    refine tkz 5 rfl ?_
    refine rd1 8 (fun K hK=>?_)
    go_simp
    refine (lowestStop_at h c HK.out lw HLW.out _).mono ?_
    rintro e v_6 ⟨rfl,hb⟩
    have F0:=zH (F0.out.below hb F0.out.lt)
    have F1:=zH (F1.out.below hb F1.out.lt)
    have F2:=zH (F2.out.below hb F2.out.lt)
    have F3:=zH (F3.out.below hb F3.out.lt)
    have FB:=tB FB hb
    clear hb
    obtain ⟨x0_0,x0_1,x0_2,x0_3,x0_4,x0_5,x0_6,x0_7,x0_8,x0_9,x0_10,x0_11⟩:=F0.out
    obtain ⟨x1_0,x1_1,x1_2,y1_0,y1_1,y1_2⟩:=F1.out
    try dsimp only
    refine kp hK (fun hHeld=>?_)
    clear hK K
    refine tkz 9 rfl ?_
    refine wpAnyH_done (by kernel_rfl) ?_ _
    go_wp2_with fail
    go_roundw
    case rel=>exact ⟨z + 1,rfl,by omega,by omega,F0.out,F1.out,F2.out,by rw [covLo_no (by omega) HD.out];exact F3.out,FB.out⟩
    case measure=>simp [intOf];omega
  ·have ez:z=h.fl + 1:=by omega
   subst ez
   obtain ⟨L,hL⟩:∃ L,Hs.covLo h lw (h.fl + 1 + 1).toNat=L:=⟨_,rfl⟩
   have HL:=zH hL
   have F3:Hid (MW wr (w.heap.size + 3) (⟨L,h.fl⟩:Sp)):=hL ▸ F3.out
   clear hL hlt n1 n2
   go_wp2_with fail
   go_loopw [7] (fun nn wr=>∃ z:Int,nn=I Z z∧-2≤z∧z≤h.fl∧HAt wr w.heap.size h∧CW wr (w.heap.size + 1) c∧MW wr (w.heap.size + 2) (⟨0,0⟩:Sp)∧MW wr (w.heap.size + 3) (⟨L,Hs.covHi h hg_ (h.fl - z).toNat⟩:Sp)∧Below w.heap.size w wr) (fun nn _=>(intOf nn + 2).toNat)
   case atStart=>exact ⟨h.fl,rfl,by omega,by omega,F0.out,F1.out,F2.out,by rw [Int.sub_self];exact F3.out,FB.out⟩
   case round=>
    obtain ⟨z,rfl,n1,n2,h0,h1,h2,h3,h4⟩:=hrel
    have F0:=zH h0
    have F1:=zH h1
    have F2:=zH h2
    have F3:=zH h3
    have FB:=zH h4
    clear h0 h1 h2 h3 h4
    obtain ⟨x0_0,x0_1,x0_2,x0_3,x0_4,x0_5,x0_6,x0_7,x0_8,x0_9,x0_10,x0_11⟩:=F0.out
    obtain ⟨x1_0,x1_1,x1_2,y1_0,y1_1,y1_2⟩:=F1.out
    by_cases hge:-1≤z
    ·obtain ⟨b1,b2⟩:=HO.out.level_bd z (by omega) (by omega)
     have ew:IntKind.i64.wrap (h.level z + h.lv)=h.level z + h.lv:=IntWalk.i64_in _ (by omega)
     have ez:IntKind.i64.wrap (z - 1)=z - 1:=IntWalk.i64_in _ (by omega)
     go_wp2_with fail
     by_cases hd:hg_≤h.level z + h.lv
     ·have hd':decide (hg_≤h.level z + h.lv)=true:=decide_eq_true hd
      have HD:=zH hd
      clear hd
      have F0:=zH (F0.out.below (Below.refl _ _).drew F0.out.lt)
      have F1:=zH (F1.out.below (Below.refl _ _).drew F1.out.lt)
      have F2:=zH (F2.out.below (Below.refl _ _).drew F2.out.lt)
      have F3:=zH (F3.out.below (Below.refl _ _).drew F3.out.lt)
      have FB:=zH (FB.out.drew)
      obtain ⟨x0_0,x0_1,x0_2,x0_3,x0_4,x0_5,x0_6,x0_7,x0_8,x0_9,x0_10,x0_11⟩:=F0.out
      obtain ⟨x1_0,x1_1,x1_2,y1_0,y1_1,y1_2⟩:=F1.out
      refine wp_region_held_drew (S:=(fun w''=>hS w.heap.size h w''∧w''.cell? ⟨(w.heap.size + 1),0,none⟩=some (I Z c.pos)∧w''.cell? ⟨(w.heap.size + 1),1,none⟩=some (I Z c.vel)∧w''.cell? ⟨(w.heap.size + 1),2,none⟩=some (I Z c.door))) (by kernel_rfl) (by ((try dsimp only);(try simp only [hS]);first | ((repeat' apply And.intro) <;> assumption) | go_keep)) (fun hHeld=>?_)
      obtain ⟨v_7,hw1⟩:∃ v_7,v_7=wr.drew:=⟨_,rfl⟩
      rw [← hw1] at F0 F1 F2 F3 FB hHeld ⊢
      clear hw1
      obtain ⟨x0_0,x0_1,x0_2,x0_3,x0_4,x0_5,x0_6,x0_7,x0_8,x0_9,x0_10,x0_11⟩:=F0.out
      obtain ⟨x1_0,x1_1,x1_2,y1_0,y1_1,y1_2⟩:=F1.out
      refine tkz 0 rfl ?_
      refine tkz 1 rfl ?_
      refine tkz 3 rfl ?_
      refine tkz 4 rfl ?_
      refine tkz 6 rfl ?_
      refine tkz 7 rfl ?_
      refine rd1 2 (fun K hK=>?_)
      go_simp
      refine (placeOf_any h HO.out z (by omega) (by omega) _).mono ?_
      rintro e v_8 ⟨rfl,hb⟩
      have F0:=zH (F0.out.below hb F0.out.lt)
      have F1:=zH (F1.out.below hb F1.out.lt)
      have F2:=zH (F2.out.below hb F2.out.lt)
      have F3:=zH (F3.out.below hb F3.out.lt)
      have FB:=tB FB hb
      clear hb
      obtain ⟨x0_0,x0_1,x0_2,x0_3,x0_4,x0_5,x0_6,x0_7,x0_8,x0_9,x0_10,x0_11⟩:=F0.out
      obtain ⟨x1_0,x1_1,x1_2,y1_0,y1_1,y1_2⟩:=F1.out
      try dsimp only
      refine kp hK (fun hHeld=>?_)
      clear hK K
      refine tkz 5 rfl ?_
      refine rd1 8 (fun K hK=>?_)
      go_simp
      refine (highestStop_at h c HK.out hg_ HHG.out _).mono ?_
      rintro e v_9 ⟨rfl,hb⟩
      have F0:=zH (F0.out.below hb F0.out.lt)
      have F1:=zH (F1.out.below hb F1.out.lt)
      have F2:=zH (F2.out.below hb F2.out.lt)
      have F3:=zH (F3.out.below hb F3.out.lt)
      have FB:=tB FB hb
      clear hb
      obtain ⟨x0_0,x0_1,x0_2,x0_3,x0_4,x0_5,x0_6,x0_7,x0_8,x0_9,x0_10,x0_11⟩:=F0.out
      obtain ⟨x1_0,x1_1,x1_2,y1_0,y1_1,y1_2⟩:=F1.out
      try dsimp only
      refine kp hK (fun hHeld=>?_)
      clear hK K
      refine tkz 9 rfl ?_
      refine wpAnyH_done (by kernel_rfl) ?_ _
      obtain ⟨r0,r1,r2,r3⟩:=F3.out
      try dsimp only at r0 r1
      go_wp2_with fail
      go_roundw
      case rel=>exact ⟨z - 1,rfl,by omega,by omega,F0.out.below ((Below.refl _ _).setCell (Nat.le_refl _) _) (by (try dsimp only);omega),F1.out.other (by omega),F2.out.other (by omega),by rw [covHi_yes n2 HD.out];exact F3.out.set1 z,FB.out.setCell (by (try dsimp only);omega) _⟩
      case measure=>simp [intOf];omega
     ·have hd':decide (hg_≤h.level z + h.lv)=false:=decide_eq_false hd
      have HD:=zH hd
      clear hd
      have F0:=zH (F0.out.below (Below.refl _ _).drew F0.out.lt)
      have F1:=zH (F1.out.below (Below.refl _ _).drew F1.out.lt)
      have F2:=zH (F2.out.below (Below.refl _ _).drew F2.out.lt)
      have F3:=zH (F3.out.below (Below.refl _ _).drew F3.out.lt)
      have FB:=zH (FB.out.drew)
      obtain ⟨x0_0,x0_1,x0_2,x0_3,x0_4,x0_5,x0_6,x0_7,x0_8,x0_9,x0_10,x0_11⟩:=F0.out
      obtain ⟨x1_0,x1_1,x1_2,y1_0,y1_1,y1_2⟩:=F1.out
      refine wp_region_held_drew (S:=(fun w''=>hS w.heap.size h w''∧w''.cell? ⟨(w.heap.size + 1),0,none⟩=some (I Z c.pos)∧w''.cell? ⟨(w.heap.size + 1),1,none⟩=some (I Z c.vel)∧w''.cell? ⟨(w.heap.size + 1),2,none⟩=some (I Z c.door))) (by kernel_rfl) (by ((try dsimp only);(try simp only [hS]);first | ((repeat' apply And.intro) <;> assumption) | go_keep)) (fun hHeld=>?_)
      obtain ⟨v_10,hw1⟩:∃ v_10,v_10=wr.drew:=⟨_,rfl⟩
      rw [← hw1] at F0 F1 F2 F3 FB hHeld ⊢
      clear hw1
      obtain ⟨x0_0,x0_1,x0_2,x0_3,x0_4,x0_5,x0_6,x0_7,x0_8,x0_9,x0_10,x0_11⟩:=F0.out
      obtain ⟨x1_0,x1_1,x1_2,y1_0,y1_1,y1_2⟩:=F1.out
      refine tkz 0 rfl ?_
      refine tkz 1 rfl ?_
      refine tkz 3 rfl ?_
      refine tkz 4 rfl ?_
      refine tkz 6 rfl ?_
      refine tkz 7 rfl ?_
      refine rd1 2 (fun K hK=>?_)
      go_simp
      refine (placeOf_any h HO.out z (by omega) (by omega) _).mono ?_
      rintro e v_11 ⟨rfl,hb⟩
      have F0:=zH (F0.out.below hb F0.out.lt)
      have F1:=zH (F1.out.below hb F1.out.lt)
      have F2:=zH (F2.out.below hb F2.out.lt)
      have F3:=zH (F3.out.below hb F3.out.lt)
      have FB:=tB FB hb
      clear hb
      obtain ⟨x0_0,x0_1,x0_2,x0_3,x0_4,x0_5,x0_6,x0_7,x0_8,x0_9,x0_10,x0_11⟩:=F0.out
      obtain ⟨x1_0,x1_1,x1_2,y1_0,y1_1,y1_2⟩:=F1.out
      try dsimp only
      refine kp hK (fun hHeld=>?_)
      clear hK K
      refine tkz 5 rfl ?_
      refine rd1 8 (fun K hK=>?_)
      go_simp
      refine (highestStop_at h c HK.out hg_ HHG.out _).mono ?_
      rintro e v_12 ⟨rfl,hb⟩
      have F0:=zH (F0.out.below hb F0.out.lt)
      have F1:=zH (F1.out.below hb F1.out.lt)
      have F2:=zH (F2.out.below hb F2.out.lt)
      have F3:=zH (F3.out.below hb F3.out.lt)
      have FB:=tB FB hb
      clear hb
      obtain ⟨x0_0,x0_1,x0_2,x0_3,x0_4,x0_5,x0_6,x0_7,x0_8,x0_9,x0_10,x0_11⟩:=F0.out
      obtain ⟨x1_0,x1_1,x1_2,y1_0,y1_1,y1_2⟩:=F1.out
      try dsimp only
      refine kp hK (fun hHeld=>?_)
      clear hK K
      refine tkz 9 rfl ?_
      refine wpAnyH_done (by kernel_rfl) ?_ _
      go_wp2_with fail
      go_roundw
      case rel=>exact ⟨z - 1,rfl,by omega,by omega,F0.out,F1.out,F2.out,by rw [covHi_no n2 HD.out];exact F3.out,FB.out⟩
      case measure=>simp [intOf];omega
    ·have ez:z=-2:=by omega
     subst ez
     have eq:(⟨L,Hs.covHi h hg_ (h.fl - -2).toNat⟩:Sp)=g:=by
      have e2:h.fl + 2=h.fl + 1 + 1:=by omega
      have e3:h.fl - -2=h.fl + 1 + 1:=by omega
      rw [← HGv.out,e2,HL.out,e3]
     have F3:Hid (MW wr (w.heap.size + 3) g):=eq ▸ F3.out
     obtain ⟨z0,z1,z2,z3⟩:=F3.out
     clear eq
     obtain ⟨q0,q1,q2,q3⟩:=F2.out
     try dsimp only at q0 q1
     clear HL HGv HO HK HLW HHG
     go_wp2_with fail
     change bodyPost _ _ _ _ _ (putM wr (w.heap.size + 2) g)
     obtain ⟨Wf,hWf⟩:∃ Wf,putM wr (w.heap.size + 2) g=Wf:=⟨_,rfl⟩
     have HRf:MW Wf (w.heap.size + 2) g:=hWf ▸ F2.out.put _
     have HBf:Below w.heap.size w Wf:=hWf ▸ below_putM FB.out (by omega) _
     rw [hWf]
     clear hWf
     obtain ⟨d0,d1,-,-⟩:=HRf
     try dsimp only at d0 d1
     exact bodyPost_ret (v:=.agg #[I Z g.lo,I Z g.hi]) (by simp [results,Tryz.results152,go_sem,d0,d1]) rfl ⟨rfl,HBf⟩
end Go.Proofs.YteimojoicfjdjaaGreat
