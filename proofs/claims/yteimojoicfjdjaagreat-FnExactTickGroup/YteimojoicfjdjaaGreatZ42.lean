/- Parts of the proof: GfI. -/
import Derived.Test.YteimojoicfjdjaaGreatZ18
import Derived.Test.YteimojoicfjdjaaGreatZ23
import Derived.Test.YteimojoicfjdjaaGreatZ26
import Derived.Test.YteimojoicfjdjaaGreatZ29
import Derived.Test.YteimojoicfjdjaaGreatZ30
import Derived.Test.YteimojoicfjdjaaGreatZ41
import Derived.BigGuardPart
import Derived.Deep.DeepCutAuto
namespace Go.Proofs.YteimojoicfjdjaaGreat
set_option maxRecDepth 20000
set_option maxHeartbeats 32000000
open Value renaming int → I
open IntKind renaming i64 → Z
open Go.RowKit Pl
set_option linter.unusedSimpArgs false
set_option linter.unusedVariables false
theorem isPhase_any(p:Int)(w:World) :
  Calls Tryz.prog 81 #[I Z p] w fun e w'=>e=.returned (.bool (inB p 0 2))∧w'=w:=by
 go_enter Tryz.func81,Tryz.ntmps81
 go_wp2_with (go_at_call 23;refine (isWithin_any _ _ _ _).mono ?_;rintro e w' ⟨rfl,hw⟩;obtain rfl:=hw.symm;clear hw)
 go_ret
 exact ⟨rfl,rfl⟩
theorem isDeck_any(h:Hs)(da:Option Addr)(dn dc:Nat)(nx:Int)(pa:Option Addr)(pn pc:Nat)(tk:Int)(rc:Bool)(sh:Int)(hd:dn≤1048576)(w:World) :
  Calls Tryz.prog 45 #[.agg #[I Z h.fl,I Z h.gp,I Z h.ln,I Z h.rf,I Z h.sp,I Z h.pu,I Z h.br,I Z h.dr,I Z h.lv,I Z h.dO,I Z h.ld,I Z h.qu,.slice da dn dc,I Z nx,.slice pa pn pc,I Z tk,.bool rc],I Z sh] w fun e w'=>e=.returned (.bool (inB sh 0 ((dn:Int) - 1)))∧Below w.heap.size w w':=by
 have FB:Hid (Below w.heap.size w (w.alloc (.cells #[I Z h.fl,I Z h.gp,I Z h.ln,I Z h.rf,I Z h.sp,I Z h.pu,I Z h.br,I Z h.dr,I Z h.lv,I Z h.dO,I Z h.ld,I Z h.qu,.slice da dn dc,I Z nx,.slice pa pn pc,I Z tk,.bool rc] 37))):=(Below.refl _ _).alloc (Nat.le_refl _) _
 have ew:IntKind.i64.wrap ((dn:Int) - 1)=(dn:Int) - 1:=IntWalk.i64_in _ (by omega)
 go_enter Tryz.func45,Tryz.ntmps45
 go_wp2_with (go_at_call 23;refine (isWithin_any _ _ _ _).mono ?_;rintro e w' ⟨rfl,hw⟩;obtain rfl:=hw.symm;clear hw)
 go_ret
 exact ⟨rfl,FB.out⟩
theorem deckFault_any(h:Hs)(d:Dk)(w:World) :
  Calls Tryz.prog 43 #[.agg #[I Z h.fl,I Z h.gp,I Z h.ln,I Z h.rf,I Z h.sp,I Z h.pu,I Z h.br,I Z h.dr,I Z h.lv,I Z h.dO,I Z h.ld,I Z h.qu],.agg #[I Z d.sh.lo.pos,I Z d.sh.lo.vel,I Z d.sh.lo.door,I Z d.sh.up.pos,I Z d.sh.up.vel,I Z d.sh.up.door,I Z d.sp.l.lo,I Z d.sp.l.hi,I Z d.sp.u.lo,I Z d.sp.u.hi,I Z d.pl,I Z d.pu,.bool d.hd]] w fun e w'=>e=.returned (I Z (Hs.deck h d))∧Below w.heap.size w w':=by
 have F0:Hid (HAt ((w.alloc (.cells #[I Z h.fl,I Z h.gp,I Z h.ln,I Z h.rf,I Z h.sp,I Z h.pu,I Z h.br,I Z h.dr,I Z h.lv,I Z h.dO,I Z h.ld,I Z h.qu] 31)).alloc (.cells #[I Z d.sh.lo.pos,I Z d.sh.lo.vel,I Z d.sh.lo.door,I Z d.sh.up.pos,I Z d.sh.up.vel,I Z d.sh.up.door,I Z d.sp.l.lo,I Z d.sp.l.hi,I Z d.sp.u.lo,I Z d.sp.u.hi,I Z d.pl,I Z d.pu,.bool d.hd] 73)) w.heap.size h):=(HAt.new w h _).below ((Below.refl _ _).alloc (Nat.le_refl _) _) (by simp)
 have F1:Hid (Blk ((w.alloc (.cells #[I Z h.fl,I Z h.gp,I Z h.ln,I Z h.rf,I Z h.sp,I Z h.pu,I Z h.br,I Z h.dr,I Z h.lv,I Z h.dO,I Z h.ld,I Z h.qu] 31)).alloc (.cells #[I Z d.sh.lo.pos,I Z d.sh.lo.vel,I Z d.sh.lo.door,I Z d.sh.up.pos,I Z d.sh.up.vel,I Z d.sh.up.door,I Z d.sp.l.lo,I Z d.sp.l.hi,I Z d.sp.u.lo,I Z d.sp.u.hi,I Z d.pl,I Z d.pu,.bool d.hd] 73)) (w.heap.size + 1) (cellsD d)):=Blk.at_ _ #[I Z d.sh.lo.pos,I Z d.sh.lo.vel,I Z d.sh.lo.door,I Z d.sh.up.pos,I Z d.sh.up.vel,I Z d.sh.up.door,I Z d.sp.l.lo,I Z d.sp.l.hi,I Z d.sp.u.lo,I Z d.sp.u.hi,I Z d.pl,I Z d.pu,.bool d.hd] _ _ (by simp)
 have FB:Hid (Below w.heap.size w ((w.alloc (.cells #[I Z h.fl,I Z h.gp,I Z h.ln,I Z h.rf,I Z h.sp,I Z h.pu,I Z h.br,I Z h.dr,I Z h.lv,I Z h.dO,I Z h.ld,I Z h.qu] 31)).alloc (.cells #[I Z d.sh.lo.pos,I Z d.sh.lo.vel,I Z d.sh.lo.door,I Z d.sh.up.pos,I Z d.sh.up.vel,I Z d.sh.up.door,I Z d.sp.l.lo,I Z d.sp.l.hi,I Z d.sp.u.lo,I Z d.sp.u.hi,I Z d.pl,I Z d.pu,.bool d.hd] 73))):=((Below.refl _ _).alloc (Nat.le_refl _) _).alloc (by simp) _
 obtain ⟨W0,hW0⟩:∃ W0,W0=((w.alloc (.cells #[I Z h.fl,I Z h.gp,I Z h.ln,I Z h.rf,I Z h.sp,I Z h.pu,I Z h.br,I Z h.dr,I Z h.lv,I Z h.dO,I Z h.ld,I Z h.qu] 31)).alloc (.cells #[I Z d.sh.lo.pos,I Z d.sh.lo.vel,I Z d.sh.lo.door,I Z d.sh.up.pos,I Z d.sh.up.vel,I Z d.sh.up.door,I Z d.sp.l.lo,I Z d.sp.l.hi,I Z d.sp.u.lo,I Z d.sp.u.hi,I Z d.pl,I Z d.pu,.bool d.hd] 73)):=⟨_,rfl⟩
 rw [← hW0] at F0 F1 FB
 have HW0:=zH hW0
 clear hW0
 go_enter Tryz.func43,Tryz.ntmps43
 go_upto_region 1 with fail
 rw [← HW0.out]
 clear HW0
 go_cut [5] (fun c wx=>c=I Z (orI (h.shaft d.sh) (Hs.spans h d.sp))∧HAt wx w.heap.size h∧Blk wx (w.heap.size + 1) (cellsD d)∧Below w.heap.size w wx)
 case first=>
  have F0:=zH (F0.out.below (Below.refl _ _).drew F0.out.lt)
  have F1:=zH (F1.out.below (Below.refl _ _).drew F1.out.lt)
  have FB:=zH (FB.out.drew)
  obtain ⟨x0_0,x0_1,x0_2,x0_3,x0_4,x0_5,x0_6,x0_7,x0_8,x0_9,x0_10,x0_11⟩:=F0.out
  obtain ⟨y0,y1,y2,y3,y4,y5,y6,y7,y8,y9,y10,y11,y12⟩:=F1.out.c13
  refine wp_region_held_drew (S:=(fun w''=>hS w.heap.size h w''∧w''.cell? ⟨w.heap.size + 1,0,none⟩=some (I Z d.sh.lo.pos)∧w''.cell? ⟨w.heap.size + 1,1,none⟩=some (I Z d.sh.lo.vel)∧w''.cell? ⟨w.heap.size + 1,2,none⟩=some (I Z d.sh.lo.door)∧w''.cell? ⟨w.heap.size + 1,3,none⟩=some (I Z d.sh.up.pos)∧w''.cell? ⟨w.heap.size + 1,4,none⟩=some (I Z d.sh.up.vel)∧w''.cell? ⟨w.heap.size + 1,5,none⟩=some (I Z d.sh.up.door)∧w''.cell? ⟨w.heap.size + 1,6,none⟩=some (I Z d.sp.l.lo)∧w''.cell? ⟨w.heap.size + 1,7,none⟩=some (I Z d.sp.l.hi)∧w''.cell? ⟨w.heap.size + 1,8,none⟩=some (I Z d.sp.u.lo)∧w''.cell? ⟨w.heap.size + 1,9,none⟩=some (I Z d.sp.u.hi)∧w''.cell? ⟨w.heap.size + 1,10,none⟩=some (I Z d.pl)∧w''.cell? ⟨w.heap.size + 1,11,none⟩=some (I Z d.pu)∧w''.cell? ⟨w.heap.size + 1,12,none⟩=some (.bool d.hd))) (by kernel_rfl) (by ((try dsimp only);(try simp only [hS]);first | ((repeat' apply And.intro) <;> assumption) | go_keep)) (fun hHeld=>?_)
  obtain ⟨v_1,hw1⟩:∃ v_1,v_1=W0.drew:=⟨_,rfl⟩
  rw [← hw1] at F0 F1 FB hHeld ⊢
  clear hw1
  obtain ⟨x0_0,x0_1,x0_2,x0_3,x0_4,x0_5,x0_6,x0_7,x0_8,x0_9,x0_10,x0_11⟩:=F0.out
  obtain ⟨y0,y1,y2,y3,y4,y5,y6,y7,y8,y9,y10,y11,y12⟩:=F1.out.c13
  refine tkz 0 rfl ?_
  refine tkz 1 rfl ?_
  refine tkz 2 rfl ?_
  refine tkz 4 rfl ?_
  refine tkz 5 rfl ?_
  refine tkz 6 rfl ?_
  refine rd1 3 (fun K hK=>?_)
  go_simp
  refine (implShaftFault_any h d.sh _).mono ?_
  rintro e v_2 ⟨rfl,hb⟩
  have F0:=zH (F0.out.below hb F0.out.lt)
  have F1:=zH (F1.out.below hb F1.out.lt)
  have FB:=tB FB hb
  clear hb
  obtain ⟨x0_0,x0_1,x0_2,x0_3,x0_4,x0_5,x0_6,x0_7,x0_8,x0_9,x0_10,x0_11⟩:=F0.out
  obtain ⟨y0,y1,y2,y3,y4,y5,y6,y7,y8,y9,y10,y11,y12⟩:=F1.out.c13
  try dsimp only
  refine kp hK (fun hHeld=>?_)
  clear hK K
  refine rd1 7 (fun K hK=>?_)
  go_simp
  refine (implSpansFault_any h d.sp _).mono ?_
  rintro e v_3 ⟨rfl,hb⟩
  have F0:=zH (F0.out.below hb F0.out.lt)
  have F1:=zH (F1.out.below hb F1.out.lt)
  have FB:=tB FB hb
  clear hb
  obtain ⟨x0_0,x0_1,x0_2,x0_3,x0_4,x0_5,x0_6,x0_7,x0_8,x0_9,x0_10,x0_11⟩:=F0.out
  obtain ⟨y0,y1,y2,y3,y4,y5,y6,y7,y8,y9,y10,y11,y12⟩:=F1.out.c13
  try dsimp only
  refine kp hK (fun hHeld=>?_)
  clear hK K
  refine rd1 8 (fun K hK=>?_)
  go_simp
  obtain ⟨lb0,hbb⟩:∃ lb0,lb0=v_3.heap.size:=⟨_,rfl⟩
  obtain ⟨v_4,hw2⟩:∃ v_4,v_4=v_3.alloc (.cells #[I Z (h.shaft d.sh),I Z (Hs.spans h d.sp)] 2):=⟨_,rfl⟩
  have nlb0_0:=F0.out.lt
  rw [← hbb] at nlb0_0
  have nlb0_1:=F1.out.lt
  rw [← hbb] at nlb0_1
  have FL0:Hid (Pr2 v_4 lb0 (h.shaft d.sh) (Hs.spans h d.sp)):=by rw [hw2];exact Pr2.at_ v_3 _ _ _ lb0 hbb
  have F0:Hid (HAt v_4 w.heap.size h):=by rw [hw2];exact F0.out.alloc _
  have F1:Hid (Blk v_4 (w.heap.size + 1) (cellsD d)):=by rw [hw2];exact F1.out.alloc _
  have FB:Hid (Below w.heap.size w v_4):=by rw [hw2];exact FB.out.alloc FB.out.size _
  rw [← hw2,← hbb]
  clear hbb hw2
  obtain ⟨x0_0,x0_1,x0_2,x0_3,x0_4,x0_5,x0_6,x0_7,x0_8,x0_9,x0_10,x0_11⟩:=F0.out
  obtain ⟨y0,y1,y2,y3,y4,y5,y6,y7,y8,y9,y10,y11,y12⟩:=F1.out.c13
  refine kp hK (fun hHeld=>?_)
  clear hK K
  refine rd1 9 (fun K hK=>?_)
  go_simp
  refine (or_any (h.shaft d.sh) (Hs.spans h d.sp) _ _ FL0.out.c0 FL0.out.c1).mono ?_
  rintro e w_ ⟨rfl,hw⟩
  obtain rfl:=hw.symm
  clear hw
  try dsimp only
  refine kp hK (fun hHeld=>?_)
  clear hK K
  refine tkz 10 rfl ?_
  refine wpAnyH_done (by kernel_rfl) ?_ _
  go_wp2_with fail
  go_meet
  case rel=>exact ⟨rfl,F0.out,F1.out,FB.out⟩
 case rest=>
  obtain ⟨rfl,h0,h1,h2⟩:=hcut
  have F1:=zH h1
  have FB:=zH h2
  clear h0 h1 h2
  obtain ⟨y0,y1,y2,y3,y4,y5,y6,y7,y8,y9,y10,y11,y12⟩:=F1.out.c13
  by_cases k1:h.shaft d.sh=0
  case neg=>
   have e1:orI (h.shaft d.sh) (Hs.spans h d.sp)=h.shaft d.sh:=by unfold orI;rw [if_neg k1]
   have hn:(h.shaft d.sh != 0)=true:=by simpa using k1
   have z:Hs.deck h d=h.shaft d.sh:=by unfold Hs.deck;rw [if_neg k1]
   rw [e1]
   have HZ:Hid (h.shaft d.sh=Hs.deck h d):=z.symm
   clear k1 z e1
   go_wp2_with fail
   go_ret
   exact ⟨ret_int HZ.out,FB.out⟩
  by_cases k2:Hs.spans h d.sp=0
  case neg=>
   have e1:orI (h.shaft d.sh) (Hs.spans h d.sp)=Hs.spans h d.sp:=by unfold orI;rw [if_pos k1]
   have hn:(Hs.spans h d.sp != 0)=true:=by simpa using k2
   have z:Hs.deck h d=Hs.spans h d.sp:=by unfold Hs.deck;rw [if_pos k1,if_neg k2]
   rw [e1]
   have HZ:Hid (Hs.spans h d.sp=Hs.deck h d):=z.symm
   clear k1 k2 z e1
   go_wp2_with fail
   go_ret
   exact ⟨ret_int HZ.out,FB.out⟩
  have e1:orI (h.shaft d.sh) (Hs.spans h d.sp)=0:=by unfold orI;rw [if_pos k1];exact k2
  have KD:Hid (Hs.deck h d=(if inB d.pl 0 2=true∧inB d.pu 0 2=true then (if phB d=true then 1 else 0) else 3)):=by unfold Hs.deck;rw [if_pos k1,if_pos k2];exact rfl
  rw [e1]
  clear k1 k2 e1
  go_upto_region 4 with fail
  cases p1:inB d.pl 0 2
  ·have HZ:Hid ((3:Int)=Hs.deck h d):=by
    have q:=KD.out
    rw [if_neg (by rw [p1];simp)] at q
    exact q.symm
   go_wp2_with (go_at_call 81;refine (isPhase_any _ _).mono ?_;rintro e w' ⟨rfl,hw⟩;obtain rfl:=hw.symm;clear hw)
   go_ret
   exact ⟨ret_int HZ.out,FB.out⟩
  cases p2:inB d.pu 0 2
  ·have HZ:Hid ((3:Int)=Hs.deck h d):=by
    have q:=KD.out
    rw [if_neg (by rw [p2];simp)] at q
    exact q.symm
   go_wp2_with (go_at_call 81;refine (isPhase_any _ _).mono ?_;rintro e w' ⟨rfl,hw⟩;obtain rfl:=hw.symm;clear hw)
   go_ret
   exact ⟨ret_int HZ.out,FB.out⟩
  have KD:Hid ((if phB d=true then (1:Int) else 0)=Hs.deck h d):=by
   have q:=KD.out
   rw [if_pos ⟨p1,p2⟩] at q
   exact q.symm
  go_upto_region 6 with (go_at_call 81;refine (isPhase_any _ _).mono ?_;rintro e w' ⟨rfl,hw⟩;obtain rfl:=hw.symm;clear hw)
  cases a1:(d.pl == 0) <;> cases a2:(d.sh.lo.door != 0) <;> cases a3:(d.pu == 0) <;> cases a4:(d.sh.up.door != 0)
  all_goals
   have q:=KD.out
   unfold phB at q
   rw [a1,a2,a3,a4] at q
   simp at q
   have HQ:Hid _:=q
   clear q KD
   go_wp2_with fail
   go_ret
   exact ⟨ret_int (by first | exact HQ.out | exact HQ.out.symm),FB.out⟩
theorem implGroupFault_any(h:Hs)(ds:List Dk)(da:Option Addr)(dc:Nat)(nx:Int)(ps:List Pe)(pa:Option Addr)(pc:Nat)(tk:Int)(rc:Bool)(hld:ds.length≤1048576)(hlp:ps.length≤1048576)(w:World)(hD:DIn w w.heap.size da ds)(hP:PIn w w.heap.size pa ps) :
  Calls Tryz.prog 22 #[.agg #[I Z h.fl,I Z h.gp,I Z h.ln,I Z h.rf,I Z h.sp,I Z h.pu,I Z h.br,I Z h.dr,I Z h.lv,I Z h.dO,I Z h.ld,I Z h.qu,.slice da ds.length dc,I Z nx,.slice pa ps.length pc,I Z tk,.bool rc]] w fun e w'=>e=.returned (I Z (Gr.fault ⟨h,ds,⟨nx,ps⟩,tk,rc⟩))∧Below w.heap.size w w':=by
 have HD:=zH hD
 have HP:=zH hP
 have F0:Hid (Blk (w.alloc (.cells #[I Z h.fl,I Z h.gp,I Z h.ln,I Z h.rf,I Z h.sp,I Z h.pu,I Z h.br,I Z h.dr,I Z h.lv,I Z h.dO,I Z h.ld,I Z h.qu,.slice da ds.length dc,I Z nx,.slice pa ps.length pc,I Z tk,.bool rc] 37)) w.heap.size (gvs h (.slice da ds.length dc) nx (.slice pa ps.length pc) tk rc)):=Blk.at_ w #[I Z h.fl,I Z h.gp,I Z h.ln,I Z h.rf,I Z h.sp,I Z h.pu,I Z h.br,I Z h.dr,I Z h.lv,I Z h.dO,I Z h.ld,I Z h.qu,.slice da ds.length dc,I Z nx,.slice pa ps.length pc,I Z tk,.bool rc] _ _ rfl
 have FB:Hid (Below w.heap.size w (w.alloc (.cells #[I Z h.fl,I Z h.gp,I Z h.ln,I Z h.rf,I Z h.sp,I Z h.pu,I Z h.br,I Z h.dr,I Z h.lv,I Z h.dO,I Z h.ld,I Z h.qu,.slice da ds.length dc,I Z nx,.slice pa ps.length pc,I Z tk,.bool rc] 37))):=(Below.refl _ _).alloc (Nat.le_refl _) _
 obtain ⟨W0,hW0⟩:∃ W0,W0=(w.alloc (.cells #[I Z h.fl,I Z h.gp,I Z h.ln,I Z h.rf,I Z h.sp,I Z h.pu,I Z h.br,I Z h.dr,I Z h.lv,I Z h.dO,I Z h.ld,I Z h.qu,.slice da ds.length dc,I Z nx,.slice pa ps.length pc,I Z tk,.bool rc] 37)):=⟨_,rfl⟩
 rw [← hW0] at F0 FB
 have HW0:=zH hW0
 clear hW0 hD hP
 unfold Gr.fault
 dsimp only
 by_cases hf:h.fault=0
 case neg=>
  rw [if_neg hf]
  have hn:(h.fault != 0)=true:=by simpa using hf
  clear hf
  go_enter Tryz.func22,Tryz.ntmps22
  go_upto_region 1 with fail
  rw [← HW0.out]
  obtain ⟨x0,x1,x2,x3,x4,x5,x6,x7,x8,x9,x10,x11,x12,x13,x14,x15,x16⟩:=F0.out.c17
  go_wp2_with (go_at_call 42;refine (implFault_any h _).mono ?_;rintro e w1 ⟨rfl,hb⟩;have F0:=zH (F0.out.below hb F0.out.lt);have FB:=tB FB hb;clear hb;obtain ⟨x0,x1,x2,x3,x4,x5,x6,x7,x8,x9,x10,x11,x12,x13,x14,x15,x16⟩:=F0.out.c17)
  go_ret
  exact ⟨rfl,FB.out⟩
 rw [if_pos hf]
 obtain ⟨r,hr⟩:∃ r,Gr.faultC ⟨h,ds,⟨nx,ps⟩,tk,rc⟩=r:=⟨_,rfl⟩
 rw [hr]
 have HR:=zH hr
 clear hr
 unfold Gr.faultC at HR
 dsimp only at HR
 go_enter Tryz.func22,Tryz.ntmps22
 go_upto_region 1 with fail
 rw [← HW0.out]
 obtain ⟨x0,x1,x2,x3,x4,x5,x6,x7,x8,x9,x10,x11,x12,x13,x14,x15,x16⟩:=F0.out.c17
 go_upto_region 4 with (go_at_call 42;refine (implFault_any h _).mono ?_;rw [hf];rintro e w1 ⟨rfl,hb⟩;have F0:=zH (F0.out.below hb F0.out.lt);have FB:=tB FB hb;clear hb;obtain ⟨x0,x1,x2,x3,x4,x5,x6,x7,x8,x9,x10,x11,x12,x13,x14,x15,x16⟩:=F0.out.c17)
 cases n1:inB (ds.length:Int) 1 3
 ·have HR:Hid ((2:Int)=r):=by
   have q:=HR.out
   rw [n1,if_neg (by simp)] at q
   exact q
  go_wp2_with (go_at_call 23;refine (isWithin_any _ _ _ _).mono ?_;rintro e w' ⟨rfl,hw⟩;obtain rfl:=hw.symm;clear hw)
  go_ret
  exact ⟨ret_int HR.out,FB.out⟩
 have HR:Hid ((if Hs.decks h ds=0 then (if Hs.led h ⟨nx,ps⟩=0 then (if awayB ds.length ps=true then 1 else if inB tk 0 1000000000000000=true then 0 else 3) else Hs.led h ⟨nx,ps⟩) else Hs.decks h ds)=r):=by
  have q:=HR.out
  rw [n1,if_pos rfl] at q
  exact q
 go_wp2_with (go_at_call 23;refine (isWithin_any _ _ _ _).mono ?_;rintro e w' ⟨rfl,hw⟩;obtain rfl:=hw.symm;clear hw)
 clear x0 x1 x2 x3 x4 x5 x6 x7 x8 x9 x10 x11 x12 x13 x14 x15 x16
 go_loopw [24] (fun ii wr=>∃ i:Nat,ii=I Z i∧i≤ds.length∧(∀ (j:Nat) e,j < i→ds[j]? = some e→Hs.deck h e=0)∧Blk wr w.heap.size (gvs h (.slice da ds.length dc) nx (.slice pa ps.length pc) tk rc)∧Below w.heap.size w wr) (fun ii _=>ds.length - (intOf ii).toNat)
 case atStart=>exact ⟨0,rfl,by omega,fun j q hj=>absurd hj (by omega),F0.out,FB.out⟩
 case round=>
  obtain ⟨i,rfl,hi,hok,h0,h1⟩:=hrel
  have HOK:=zH hok
  have F0:=zH h0
  have FB:=zH h1
  clear hok h0 h1
  by_cases hlt:i < ds.length
  ·obtain ⟨d,hd⟩:∃ d,ds[i]? = some d:=⟨_,List.getElem?_eq_getElem hlt⟩
   have FS:Hid (Hs.decks h ds=if Hs.deck h d=0 then Hs.decks h (ds.drop (i + 1)) else Hs.deck h d):=decks_step hd HOK.out
   have HOK':Hid (Hs.deck h d=0→∀ (j:Nat) e,j < i + 1→ds[j]? = some e→Hs.deck h e=0):=by
    intro z j e hj he
    by_cases ej:j=i
    ·subst ej
     rw [hd] at he
     cases he
     exact z
    ·exact HOK.out j e (by omega) he
   have HBAD:Hid (∀ c,c ≠ 0→Hs.deck h d=c→c=r):=by
    intro c cz hc
    have q:=FS.out
    rw [hc,if_neg cz] at q
    have z:=HR.out
    rw [q,if_neg cz] at z
    exact z
   rcases HD.out with hz | ⟨b,o,ha,hbl,h13⟩
   ·rw [hz] at hlt;simp at hlt
   subst ha
   obtain ⟨c0,c1,c2,c3,c4,c5,c6,c7,c8,c9,c10,c11,c12⟩:=(h13 i d hd).below FB.out hbl
   clear h13 hd HOK FS
   obtain ⟨x0,x1,x2,x3,x4,x5,x6,x7,x8,x9,x10,x11,x12,x13,x14,x15,x16⟩:=F0.out.c17
   go_upto_region 9 with fail
   obtain ⟨db,hdb⟩:∃ db,db=wr.heap.size:=⟨_,rfl⟩
   obtain ⟨W1,hW1⟩:∃ W1,W1=wr.alloc (.cells #[I Z d.sh.lo.pos,I Z d.sh.lo.vel,I Z d.sh.lo.door,I Z d.sh.up.pos,I Z d.sh.up.vel,I Z d.sh.up.door,I Z d.sp.l.lo,I Z d.sp.l.hi,I Z d.sp.u.lo,I Z d.sp.u.hi,I Z d.pl,I Z d.pu,.bool d.hd] 73):=⟨_,rfl⟩
   have F0:Hid (Blk W1 w.heap.size (gvs h (.slice (some ⟨b,o,none⟩) ds.length dc) nx (.slice pa ps.length pc) tk rc)):=by rw [hW1];exact F0.out.alloc _
   have FD:Hid (Blk W1 db (cellsD d)):=by rw [hW1];exact Blk.at_ wr #[I Z d.sh.lo.pos,I Z d.sh.lo.vel,I Z d.sh.lo.door,I Z d.sh.up.pos,I Z d.sh.up.vel,I Z d.sh.up.door,I Z d.sp.l.lo,I Z d.sp.l.hi,I Z d.sp.u.lo,I Z d.sp.u.hi,I Z d.pl,I Z d.pu,.bool d.hd] _ _ hdb
   have FB:Hid (Below w.heap.size w W1):=by rw [hW1];exact FB.out.alloc FB.out.size _
   rw [← hW1,← hdb]
   clear hW1 hdb c0 c1 c2 c3 c4 c5 c6 c7 c8 c9 c10 c11 c12
   obtain ⟨x0,x1,x2,x3,x4,x5,x6,x7,x8,x9,x10,x11,x12,x13,x14,x15,x16⟩:=F0.out.c17
   obtain ⟨y0,y1,y2,y3,y4,y5,y6,y7,y8,y9,y10,y11,y12⟩:=FD.out.c13
   go_upto_region 10 with (first | (refine load_blk 73 _ Tryz.underlying73 (by kernel_rfl) FD.out rfl rfl rfl ?_) | (go_at_call 43;refine (deckFault_any h d _).mono ?_;rintro e w2 ⟨rfl,hb⟩;have F0:=zH (F0.out.below hb F0.out.lt);have FD:=zH (FD.out.below hb FD.out.lt);have FB:=tB FB hb;clear hb))
   by_cases k1:Hs.deck h d=0
   case neg=>
    have hn:(Hs.deck h d != 0)=true:=by simpa using k1
    have HZ:Hid (Hs.deck h d=r):=HBAD.out _ k1 rfl
    clear k1
    go_wp2_with fail
    go_ret
    exact ⟨ret_int HZ.out,FB.out⟩
   have hn1:(Hs.deck h d != 0)=false:=by simpa using k1
   have HN:Hid (∀ (j:Nat) e,j < i + 1→ds[j]? = some e→Hs.deck h e=0):=HOK'.out k1
   clear k1
   go_wp2_with fail
   go_roundw
   case rel=>exact ⟨i + 1,by simp,by omega,HN.out,F0.out,FB.out⟩
   case measure=>simp [intOf];omega
  ·have ei:i=ds.length:=by omega
   subst ei
   have hz:Hs.decks h ds=0:=decks_all (fun j e he=>HOK.out j e (List.getElem?_eq_some_iff.1 he).1 he)
   have HR:Hid ((if Hs.led h ⟨nx,ps⟩=0 then (if awayB ds.length ps=true then 1 else if inB tk 0 1000000000000000=true then 0 else 3) else Hs.led h ⟨nx,ps⟩)=r):=by
    have q:=HR.out
    rw [if_pos hz] at q
    exact q
   clear hz HOK hlt hi
   obtain ⟨x0,x1,x2,x3,x4,x5,x6,x7,x8,x9,x10,x11,x12,x13,x14,x15,x16⟩:=F0.out.c17
   go_upto_region 14 with (go_at_call 44;refine (implLedgerFault_any h ⟨nx,ps⟩ pa pc hlp _ ((HP.out.below FB.out (Nat.le_refl _)).mono FB.out.size)).mono ?_;rintro e w2 ⟨rfl,hb⟩;have F0:=zH (F0.out.below hb F0.out.lt);have FB:=tB FB hb;clear hb;obtain ⟨x0,x1,x2,x3,x4,x5,x6,x7,x8,x9,x10,x11,x12,x13,x14,x15,x16⟩:=F0.out.c17)
   by_cases k3:Hs.led h ⟨nx,ps⟩=0
   case neg=>
    have hn:(Hs.led h ⟨nx,ps⟩ != 0)=true:=by simpa using k3
    have HR:Hid (Hs.led h ⟨nx,ps⟩=r):=by
     have q:=HR.out
     rw [if_neg k3] at q
     exact q
    clear k3
    go_wp2_with fail
    go_ret
    exact ⟨ret_int HR.out,FB.out⟩
   have hn3:(Hs.led h ⟨nx,ps⟩ != 0)=false:=by simpa using k3
   have KL:Hid (∀ (j:Nat) q,ps[j]? = some q→0≤q.sh):=fun j q hq=>(inP_parts (persC_iff.1 (pers_iff.1 ((led_zero_iff.1 k3).ps j q hq)).2.2).2.1).1.1
   have HR:Hid ((if awayB ds.length ps=true then 1 else if inB tk 0 1000000000000000=true then 0 else 3)=r):=by
    have q:=HR.out
    rw [if_pos k3] at q
    exact q
   clear k3
   go_wp2_with fail
   clear x0 x1 x2 x3 x4 x5 x6 x7 x8 x9 x10 x11 x12 x13 x14 x15 x16
   go_loopw [48] (fun ii wr=>∃ i:Nat,ii=I Z i∧i≤ps.length∧(∀ (j:Nat) q,j < i→ps[j]? = some q→q.sh < (ds.length:Int))∧Blk wr w.heap.size (gvs h (.slice da ds.length dc) nx (.slice pa ps.length pc) tk rc)∧Below w.heap.size w wr) (fun ii _=>ps.length - (intOf ii).toNat)
   case atStart=>exact ⟨0,rfl,by omega,fun j q hj=>absurd hj (by omega),F0.out,FB.out⟩
   case round=>
    obtain ⟨i,rfl,hi,hok,h0,h1⟩:=hrel
    have HOK:=zH hok
    have F0:=zH h0
    have FB:=zH h1
    clear hok h0 h1
    obtain ⟨x0,x1,x2,x3,x4,x5,x6,x7,x8,x9,x10,x11,x12,x13,x14,x15,x16⟩:=F0.out.c17
    by_cases hlt:i < ps.length
    ·obtain ⟨p,hp⟩:∃ p,ps[i]? = some p:=⟨_,List.getElem?_eq_getElem hlt⟩
     have s0:=KL.out i p hp
     rcases HP.out with hz | ⟨b,o,ha,hbl,h7⟩
     ·rw [hz] at hlt;simp at hlt
     subst ha
     obtain ⟨c0,c1,c2,c3,c4,c5,c6⟩:=(h7 i p hp).below FB.out hbl
     obtain ⟨bk,hbk⟩:∃ bk,inB p.sh 0 ((ds.length:Int) - 1)=bk:=⟨_,rfl⟩
     have KI:=zH hbk
     have HRB:Hid (bk=false→(1:Int)=r):=by
      intro z
      have kc:(ds.length:Int)≤p.sh:=by
       rw [z] at hbk
       by_cases q:(ds.length:Int)≤p.sh
       ·exact q
       ·rw [inB_yes s0 (by omega)] at hbk;cases hbk
      have q:=HR.out
      rw [away_step hp kc,if_pos rfl] at q
      exact q
     have HN:Hid (bk=true→∀ (j:Nat) q,j < i + 1→ps[j]? = some q→q.sh < (ds.length:Int)):=by
      intro z j q hj hq
      rw [z] at hbk
      have:=inB_iff.1 hbk
      by_cases ej:j=i
      ·subst ej
       rw [hp] at hq
       cases hq
       omega
      ·exact HOK.out j q (by omega) hq
     clear h7 hp s0 hbk
     go_upto_region 19 with fail
     obtain ⟨pb,hpb⟩:∃ pb,pb=wr.heap.size:=⟨_,rfl⟩
     obtain ⟨W1,hW1⟩:∃ W1,W1=wr.alloc (.cells #[I Z p.id,I Z p.fr,I Z p.tw,I Z p.sh,I Z p.ca,I Z p.st,I Z p.pl] 79):=⟨_,rfl⟩
     have F0:Hid (Blk W1 w.heap.size (gvs h (.slice da ds.length dc) nx (.slice (some ⟨b,o,none⟩) ps.length pc) tk rc)):=by rw [hW1];exact F0.out.alloc _
     have FP:Hid (Blk W1 pb (cells7 p)):=by rw [hW1];exact Blk.at_ wr #[I Z p.id,I Z p.fr,I Z p.tw,I Z p.sh,I Z p.ca,I Z p.st,I Z p.pl] _ _ hpb
     have FB:Hid (Below w.heap.size w W1):=by rw [hW1];exact FB.out.alloc FB.out.size _
     rw [← hW1,← hpb]
     clear hW1 hpb c0 c1 c2 c3 c4 c5 c6
     obtain ⟨x0,x1,x2,x3,x4,x5,x6,x7,x8,x9,x10,x11,x12,x13,x14,x15,x16⟩:=F0.out.c17
     obtain ⟨z0,z1,z2,z3,z4,z5,z6⟩:=FP.out.c7
     go_upto_if 56 with (first | (refine load_blk 37 _ Tryz.underlying37 (by kernel_rfl) F0.out rfl rfl rfl ?_) | (go_at_call 45;refine (isDeck_any h da ds.length dc nx (some ⟨b,o,none⟩) ps.length pc tk rc p.sh hld _).mono ?_;rw [KI.out];rintro e w2 ⟨rfl,hb⟩;have F0:=zH (F0.out.below hb F0.out.lt);have FB:=tB FB hb;clear hb))
     cases bk
     ·have HR:Hid ((1:Int)=r):=HRB.out rfl
      go_wp2_with fail
      go_ret
      exact ⟨ret_int HR.out,FB.out⟩
     ·have HM:Hid (∀ (j:Nat) q,j < i + 1→ps[j]? = some q→q.sh < (ds.length:Int)):=HN.out rfl
      go_wp2_with fail
      go_roundw
      case rel=>exact ⟨i + 1,by simp,by omega,HM.out,F0.out,FB.out⟩
      case measure=>simp [intOf];omega
    ·have ei:i=ps.length:=by omega
     subst ei
     have hz:awayB ds.length ps=false:=away_none HOK.out
     have HR:Hid ((if inB tk 0 1000000000000000=true then (0:Int) else 3)=r):=by
      have q:=HR.out
      rw [hz,if_neg (by simp)] at q
      exact q
     clear hz HOK hlt hi
     cases k5:inB tk 0 1000000000000000
     ·have HR:Hid ((3:Int)=r):=by
       have q:=HR.out
       rw [k5,if_neg (by simp)] at q
       exact q
      go_wp2_with (go_at_call 23;refine (isWithin_any _ _ _ _).mono ?_;rintro e w' ⟨rfl,hw⟩;obtain rfl:=hw.symm;clear hw)
      go_ret
      exact ⟨ret_int HR.out,FB.out⟩
     ·have HR:Hid ((0:Int)=r):=by
       have q:=HR.out
       rw [k5,if_pos rfl] at q
       exact q
      go_wp2_with (go_at_call 23;refine (isWithin_any _ _ _ _).mono ?_;rintro e w' ⟨rfl,hw⟩;obtain rfl:=hw.symm;clear hw)
      go_ret
      exact ⟨ret_int HR.out,FB.out⟩
end Go.Proofs.YteimojoicfjdjaaGreat
