/- Parts of the proof: GfS, XCb, XGi, PersL. -/
import Derived.Test.YteimojoicfjdjaaGreatZ18
import Derived.Test.YteimojoicfjdjaaGreatZ20
import Derived.Test.YteimojoicfjdjaaGreatZ21
import Derived.Test.YteimojoicfjdjaaGreatZ23
import Derived.Test.YteimojoicfjdjaaGreatZ25
import Derived.Test.YteimojoicfjdjaaGreatZ26
import Derived.Test.YteimojoicfjdjaaGreatZ29
import Derived.BigGuardPart
namespace Go.Proofs.YteimojoicfjdjaaGreat
set_option maxRecDepth 20000
set_option maxHeartbeats 32000000
open Value renaming int → I
open IntKind renaming i64 → Z
open Go.RowKit Pl
set_option linter.unusedSimpArgs false
set_option linter.unusedVariables false
theorem phB_iff{d:Dk}:phB d=(decide ((if d.sh.lo.door ≠ 0∧d.pl=0 then (1:Int) else 0) ≠ 0) || decide ((if d.sh.up.door ≠ 0∧d.pu=0 then (1:Int) else 0) ≠ 0)):=by
 unfold phB
 by_cases a:d.sh.lo.door=0 <;> by_cases b:d.pl=0 <;> by_cases c:d.sh.up.door=0 <;> by_cases e:d.pu=0 <;> simp [a,b,c,e]
theorem away_step{n:Nat}{l:List Pe}{i:Nat}{p:Pe}(hp:l[i]? = some p)(h:(n:Int)≤p.sh):awayB n l=true:=by
 unfold awayB
 rw [List.any_eq_true]
 exact ⟨p,List.mem_of_getElem? hp,decide_eq_true h⟩
theorem away_none{n:Nat}{l:List Pe}(h:∀ (j:Nat) q,j < l.length→l[j]? = some q→q.sh < (n:Int)):awayB n l=false:=by
 unfold awayB
 rw [List.any_eq_false]
 intro p hp
 obtain ⟨j,hj⟩:=List.getElem?_of_mem hp
 have:=h j p (List.getElem?_eq_some_iff.1 hj).1 hj
 simp
 omega
theorem specGroupFault_any(h:Hs)(ds:List Dk)(da:Option Addr)(dc:Nat)(nx:Int)(ps:List Pe)(pa:Option Addr)(pc:Nat)(tk:Int)(rc:Bool)(hld:ds.length≤1048576)(hlp:ps.length≤1048576)(w:World)(hD:DIn w w.heap.size da ds)(hP:PIn w w.heap.size pa ps) :
  Calls Tryz.prog 15 #[.agg #[I Z h.fl,I Z h.gp,I Z h.ln,I Z h.rf,I Z h.sp,I Z h.pu,I Z h.br,I Z h.dr,I Z h.lv,I Z h.dO,I Z h.ld,I Z h.qu,.slice da ds.length dc,I Z nx,.slice pa ps.length pc,I Z tk,.bool rc]] w fun e w'=>e=.returned (I Z (Gr.fault ⟨h,ds,⟨nx,ps⟩,tk,rc⟩))∧Below w.heap.size w w':=by
 have HD:=zH hD
 have HP:=zH hP
 have F0:Hid (Blk (w.alloc (.cells #[I Z h.fl,I Z h.gp,I Z h.ln,I Z h.rf,I Z h.sp,I Z h.pu,I Z h.br,I Z h.dr,I Z h.lv,I Z h.dO,I Z h.ld,I Z h.qu,.slice da ds.length dc,I Z nx,.slice pa ps.length pc,I Z tk,.bool rc] 37)) w.heap.size (gvs h (.slice da ds.length dc) nx (.slice pa ps.length pc) tk rc)):=Blk.at_ w #[I Z h.fl,I Z h.gp,I Z h.ln,I Z h.rf,I Z h.sp,I Z h.pu,I Z h.br,I Z h.dr,I Z h.lv,I Z h.dO,I Z h.ld,I Z h.qu,.slice da ds.length dc,I Z nx,.slice pa ps.length pc,I Z tk,.bool rc] _ _ rfl
 have FB:Hid (Below w.heap.size w (w.alloc (.cells #[I Z h.fl,I Z h.gp,I Z h.ln,I Z h.rf,I Z h.sp,I Z h.pu,I Z h.br,I Z h.dr,I Z h.lv,I Z h.dO,I Z h.ld,I Z h.qu,.slice da ds.length dc,I Z nx,.slice pa ps.length pc,I Z tk,.bool rc] 37))):=(Below.refl _ _).alloc (Nat.le_refl _) _
 obtain ⟨W0,hW0⟩:∃ W0,W0=(w.alloc (.cells #[I Z h.fl,I Z h.gp,I Z h.ln,I Z h.rf,I Z h.sp,I Z h.pu,I Z h.br,I Z h.dr,I Z h.lv,I Z h.dO,I Z h.ld,I Z h.qu,.slice da ds.length dc,I Z nx,.slice pa ps.length pc,I Z tk,.bool rc] 37)):=⟨_,rfl⟩
 rw [← hW0] at F0 FB
 have HW0:=zH hW0
 clear hW0 hD hP
 unfold Gr.fault
 dsimp only
 by_cases hf:h.fault=0
 case neg=>
  rw [if_neg hf]
  have hn:(h.fault != 0)=true:=by simpa using hf
  clear hf
  go_enter Tryz.func15,Tryz.ntmps15
  go_upto_region 1 with fail
  rw [← HW0.out]
  obtain ⟨x0,x1,x2,x3,x4,x5,x6,x7,x8,x9,x10,x11,x12,x13,x14,x15,x16⟩:=F0.out.c17
  go_wp2_with (go_at_call 33;refine (specFault_any h _).mono ?_;rintro e w1 ⟨rfl,hb⟩;have F0:=bB F0 hb;have FB:=tB FB hb;clear hb;obtain ⟨x0,x1,x2,x3,x4,x5,x6,x7,x8,x9,x10,x11,x12,x13,x14,x15,x16⟩:=F0.out.c17)
  go_ret
  exact ⟨rfl,FB.out⟩
 rw [if_pos hf]
 obtain ⟨r,hr⟩:∃ r,Gr.faultC ⟨h,ds,⟨nx,ps⟩,tk,rc⟩=r:=⟨_,rfl⟩
 rw [hr]
 have HR:=zH hr
 clear hr
 unfold Gr.faultC at HR
 dsimp only at HR
 go_enter Tryz.func15,Tryz.ntmps15
 go_upto_region 1 with fail
 rw [← HW0.out]
 obtain ⟨x0,x1,x2,x3,x4,x5,x6,x7,x8,x9,x10,x11,x12,x13,x14,x15,x16⟩:=F0.out.c17
 go_upto_region 4 with (go_at_call 33;refine (specFault_any h _).mono ?_;rw [hf];rintro e w1 ⟨rfl,hb⟩;have F0:=bB F0 hb;have FB:=tB FB hb;clear hb;obtain ⟨x0,x1,x2,x3,x4,x5,x6,x7,x8,x9,x10,x11,x12,x13,x14,x15,x16⟩:=F0.out.c17)
 by_cases n1:(ds.length:Int) < 1
 case pos=>
  have HR:Hid ((2:Int)=r):=by
   have q:=HR.out
   rw [if_neg (by rw [inB_iff];omega)] at q
   exact q
  have b1:decide ((ds.length:Int) < 1)=true:=decide_eq_true n1
  clear n1
  go_wp2_with fail
  go_ret
  exact ⟨ret_int HR.out,FB.out⟩
 by_cases n3:3 < (ds.length:Int)
 case pos=>
  have HR:Hid ((2:Int)=r):=by
   have q:=HR.out
   rw [if_neg (by rw [inB_iff];omega)] at q
   exact q
  have b1:decide ((ds.length:Int) < 1)=false:=decide_eq_false n1
  have b3:decide (3 < (ds.length:Int))=true:=decide_eq_true n3
  clear n1 n3
  go_wp2_with fail
  go_ret
  exact ⟨ret_int HR.out,FB.out⟩
 have HR:Hid ((if Hs.decks h ds=0 then (if Hs.led h ⟨nx,ps⟩=0 then (if awayB ds.length ps=true then 1 else if inB tk 0 1000000000000000=true then 0 else 3) else Hs.led h ⟨nx,ps⟩) else Hs.decks h ds)=r):=by
  have q:=HR.out
  rw [if_pos (by rw [inB_iff];omega)] at q
  exact q
 have b1:decide ((ds.length:Int) < 1)=false:=decide_eq_false n1
 have b3:decide (3 < (ds.length:Int))=false:=decide_eq_false n3
 go_wp2_with fail
 clear x0 x1 x2 x3 x4 x5 x6 x7 x8 x9 x10 x11 x12 x13 x14 x15 x16
 go_loopw [4] (fun ii wr=>∃ i:Nat,ii=I Z i∧i≤ds.length∧(∀ (j:Nat) e,j < i→ds[j]? = some e→Hs.deck h e=0)∧Blk wr w.heap.size (gvs h (.slice da ds.length dc) nx (.slice pa ps.length pc) tk rc)∧Below w.heap.size w wr) (fun ii _=>ds.length - (intOf ii).toNat)
 case atStart=>exact ⟨0,rfl,by omega,fun j q hj=>absurd hj (by omega),F0.out,FB.out⟩
 case round=>
  obtain ⟨i,rfl,hi,hok,h0,h1⟩:=hrel
  have HOK:=zH hok
  have F0:=zH h0
  have FB:=zH h1
  clear hok h0 h1
  by_cases hlt:i < ds.length
  ·obtain ⟨d,hd⟩:∃ d,ds[i]? = some d:=⟨_,List.getElem?_eq_getElem hlt⟩
   have FS:Hid (Hs.decks h ds=if Hs.deck h d=0 then Hs.decks h (ds.drop (i + 1)) else Hs.deck h d):=decks_step hd HOK.out
   have HOK':Hid (Hs.deck h d=0→∀ (j:Nat) e,j < i + 1→ds[j]? = some e→Hs.deck h e=0):=by
    intro z j e hj he
    by_cases ej:j=i
    ·subst ej
     rw [hd] at he
     cases he
     exact z
    ·exact HOK.out j e (by omega) he
   have HBAD:Hid (∀ c,c ≠ 0→Hs.deck h d=c→c=r):=by
    intro c cz hc
    have q:=FS.out
    rw [hc,if_neg cz] at q
    have z:=HR.out
    rw [q,if_neg cz] at z
    exact z
   rcases HD.out with hz | ⟨b,o,ha,hbl,h13⟩
   ·rw [hz] at hlt;simp at hlt
   subst ha
   obtain ⟨c0,c1,c2,c3,c4,c5,c6,c7,c8,c9,c10,c11,c12⟩:=(h13 i d hd).below FB.out hbl
   clear h13 hd HOK FS
   obtain ⟨x0,x1,x2,x3,x4,x5,x6,x7,x8,x9,x10,x11,x12,x13,x14,x15,x16⟩:=F0.out.c17
   go_upto_region 10 with fail
   obtain ⟨db,hdb⟩:∃ db,db=wr.heap.size:=⟨_,rfl⟩
   obtain ⟨W1,hW1⟩:∃ W1,W1=wr.alloc (.cells #[I Z d.sh.lo.pos,I Z d.sh.lo.vel,I Z d.sh.lo.door,I Z d.sh.up.pos,I Z d.sh.up.vel,I Z d.sh.up.door,I Z d.sp.l.lo,I Z d.sp.l.hi,I Z d.sp.u.lo,I Z d.sp.u.hi,I Z d.pl,I Z d.pu,.bool d.hd] 73):=⟨_,rfl⟩
   have F0:Hid (Blk W1 w.heap.size (gvs h (.slice (some ⟨b,o,none⟩) ds.length dc) nx (.slice pa ps.length pc) tk rc)):=by rw [hW1];exact F0.out.alloc _
   have FD:Hid (Blk W1 db (cellsD d)):=by rw [hW1];exact Blk.at_ wr #[I Z d.sh.lo.pos,I Z d.sh.lo.vel,I Z d.sh.lo.door,I Z d.sh.up.pos,I Z d.sh.up.vel,I Z d.sh.up.door,I Z d.sp.l.lo,I Z d.sp.l.hi,I Z d.sp.u.lo,I Z d.sp.u.hi,I Z d.pl,I Z d.pu,.bool d.hd] _ _ hdb
   have FB:Hid (Below w.heap.size w W1):=by rw [hW1];exact FB.out.alloc FB.out.size _
   rw [← hW1,← hdb]
   clear hW1 hdb c0 c1 c2 c3 c4 c5 c6 c7 c8 c9 c10 c11 c12
   obtain ⟨x0,x1,x2,x3,x4,x5,x6,x7,x8,x9,x10,x11,x12,x13,x14,x15,x16⟩:=F0.out.c17
   obtain ⟨y0,y1,y2,y3,y4,y5,y6,y7,y8,y9,y10,y11,y12⟩:=FD.out.c13
   go_upto_region 11 with (go_at_call 34;refine (specShaftFault_any h d.sh _).mono ?_;rintro e w2 ⟨rfl,hb⟩;have F0:=bB F0 hb;have FD:=zH (FD.out.below hb FD.out.lt);have FB:=tB FB hb;clear hb;obtain ⟨x0,x1,x2,x3,x4,x5,x6,x7,x8,x9,x10,x11,x12,x13,x14,x15,x16⟩:=F0.out.c17;obtain ⟨y0,y1,y2,y3,y4,y5,y6,y7,y8,y9,y10,y11,y12⟩:=FD.out.c13)
   by_cases k1:h.shaft d.sh=0
   case neg=>
    have hn:(h.shaft d.sh != 0)=true:=by simpa using k1
    have z:Hs.deck h d=h.shaft d.sh:=by unfold Hs.deck;rw [if_neg k1]
    have HZ:Hid (h.shaft d.sh=r):=HBAD.out _ k1 z
    clear k1 z
    go_wp2_with fail
    go_ret
    exact ⟨ret_int HZ.out,FB.out⟩
   have hn1:(h.shaft d.sh != 0)=false:=by simpa using k1
   go_upto_region 14 with (go_at_call 35;refine (specSpansFault_any h d.sp _).mono ?_;rintro e w2 ⟨rfl,hb⟩;have F0:=bB F0 hb;have FD:=zH (FD.out.below hb FD.out.lt);have FB:=tB FB hb;clear hb;obtain ⟨x0,x1,x2,x3,x4,x5,x6,x7,x8,x9,x10,x11,x12,x13,x14,x15,x16⟩:=F0.out.c17;obtain ⟨y0,y1,y2,y3,y4,y5,y6,y7,y8,y9,y10,y11,y12⟩:=FD.out.c13)
   by_cases k2:Hs.spans h d.sp=0
   case neg=>
    have hn:(Hs.spans h d.sp != 0)=true:=by simpa using k2
    have z:Hs.deck h d=Hs.spans h d.sp:=by unfold Hs.deck;rw [if_pos k1,if_neg k2]
    have HZ:Hid (Hs.spans h d.sp=r):=HBAD.out _ k2 z
    clear k1 k2 z
    go_wp2_with fail
    go_ret
    exact ⟨ret_int HZ.out,FB.out⟩
   have hn2:(Hs.spans h d.sp != 0)=false:=by simpa using k2
   have kd:Hs.deck h d=(if inB d.pl 0 2=true∧inB d.pu 0 2=true then (if phB d=true then 1 else 0) else 3):=by unfold Hs.deck;rw [if_pos k1,if_pos k2]
   have KD:=zH kd
   clear k1 k2 kd
   go_upto_region 16 with fail
   cases p1:inB d.pl 0 2
   ·have HZ:Hid ((3:Int)=r):=HBAD.out 3 (by omega) (by rw [KD.out,if_neg (by rw [p1];simp)])
    go_wp2_with (go_at_call 16;refine (l1In_any _ _ _ _).mono ?_;rintro e w' ⟨rfl,hw⟩;obtain rfl:=hw.symm;clear hw)
    go_ret
    exact ⟨ret_int HZ.out,FB.out⟩
   cases p2:inB d.pu 0 2
   ·have HZ:Hid ((3:Int)=r):=HBAD.out 3 (by omega) (by rw [KD.out,if_neg (by rw [p2];simp)])
    go_wp2_with (go_at_call 16;refine (l1In_any _ _ _ _).mono ?_;rintro e w' ⟨rfl,hw⟩;obtain rfl:=hw.symm;clear hw)
    go_ret
    exact ⟨ret_int HZ.out,FB.out⟩
   have KD:Hid (Hs.deck h d=(if phB d=true then 1 else 0)):=by
    have q:=KD.out
    rw [if_pos ⟨p1,p2⟩] at q
    exact q
   obtain ⟨r1,hr1⟩:∃ r1:Int,(if d.sh.lo.door ≠ 0∧d.pl=0 then (1:Int) else 0)=r1:=⟨_,rfl⟩
   obtain ⟨r2,hr2⟩:∃ r2:Int,(if d.sh.up.door ≠ 0∧d.pu=0 then (1:Int) else 0)=r2:=⟨_,rfl⟩
   have H1:=zH hr1
   have H2:=zH hr2
   have KP:Hid (phB d=(decide (r1 ≠ 0) || decide (r2 ≠ 0))):=by
    have q:=phB_iff (d:=d)
    rw [hr1,hr2] at q
    exact q
   clear hr1 hr2
   go_upto_region 18 with (go_at_call 16;refine (l1In_any _ _ _ _).mono ?_;rintro e w' ⟨rfl,hw⟩;obtain rfl:=hw.symm;clear hw)
   by_cases q1:r1=0
   case neg=>
    have hq:(r1 != 0)=true:=by simpa using q1
    have HZ:Hid ((1:Int)=r):=HBAD.out 1 (by omega) (by rw [KD.out,KP.out];simp [q1])
    clear q1
    go_wp2_with (go_at_call 36;refine (l8Phase_any _ _ (by assumption) _).mono ?_;(first | rw [H1.out] | rw [H2.out]);rintro e w2 ⟨rfl,hb⟩;have F0:=bB F0 hb;have FD:=zH (FD.out.below hb FD.out.lt);have FB:=tB FB hb;clear hb;obtain ⟨x0,x1,x2,x3,x4,x5,x6,x7,x8,x9,x10,x11,x12,x13,x14,x15,x16⟩:=F0.out.c17;obtain ⟨y0,y1,y2,y3,y4,y5,y6,y7,y8,y9,y10,y11,y12⟩:=FD.out.c13)
    go_ret
    exact ⟨ret_int HZ.out,FB.out⟩
   have hq1:(r1 != 0)=false:=by simpa using q1
   by_cases q2:r2=0
   case neg=>
    have hq:(r2 != 0)=true:=by simpa using q2
    have HZ:Hid ((1:Int)=r):=HBAD.out 1 (by omega) (by rw [KD.out,KP.out];simp [q2])
    clear q1 q2
    go_wp2_with (go_at_call 36;refine (l8Phase_any _ _ (by assumption) _).mono ?_;(first | rw [H1.out] | rw [H2.out]);rintro e w2 ⟨rfl,hb⟩;have F0:=bB F0 hb;have FD:=zH (FD.out.below hb FD.out.lt);have FB:=tB FB hb;clear hb;obtain ⟨x0,x1,x2,x3,x4,x5,x6,x7,x8,x9,x10,x11,x12,x13,x14,x15,x16⟩:=F0.out.c17;obtain ⟨y0,y1,y2,y3,y4,y5,y6,y7,y8,y9,y10,y11,y12⟩:=FD.out.c13)
    go_ret
    exact ⟨ret_int HZ.out,FB.out⟩
   have hq2:(r2 != 0)=false:=by simpa using q2
   have HN:Hid (∀ (j:Nat) e,j < i + 1→ds[j]? = some e→Hs.deck h e=0):=HOK'.out (by rw [KD.out,KP.out];simp [q1,q2])
   clear q1 q2
   go_wp2_with (go_at_call 36;refine (l8Phase_any _ _ (by assumption) _).mono ?_;(first | rw [H1.out] | rw [H2.out]);rintro e w2 ⟨rfl,hb⟩;have F0:=bB F0 hb;have FD:=zH (FD.out.below hb FD.out.lt);have FB:=tB FB hb;clear hb;obtain ⟨x0,x1,x2,x3,x4,x5,x6,x7,x8,x9,x10,x11,x12,x13,x14,x15,x16⟩:=F0.out.c17;obtain ⟨y0,y1,y2,y3,y4,y5,y6,y7,y8,y9,y10,y11,y12⟩:=FD.out.c13)
   go_roundw
   case rel=>exact ⟨i + 1,by simp,by omega,HN.out,F0.out,FB.out⟩
   case measure=>simp [intOf];omega
  ·have ei:i=ds.length:=by omega
   subst ei
   have hz:Hs.decks h ds=0:=decks_all (fun j e he=>HOK.out j e (List.getElem?_eq_some_iff.1 he).1 he)
   have HR:Hid ((if Hs.led h ⟨nx,ps⟩=0 then (if awayB ds.length ps=true then 1 else if inB tk 0 1000000000000000=true then 0 else 3) else Hs.led h ⟨nx,ps⟩)=r):=by
    have q:=HR.out
    rw [if_pos hz] at q
    exact q
   clear hz HOK hlt hi n1 n3
   obtain ⟨x0,x1,x2,x3,x4,x5,x6,x7,x8,x9,x10,x11,x12,x13,x14,x15,x16⟩:=F0.out.c17
   go_upto_region 21 with (go_at_call 37;refine (specLedgerFault_any h ⟨nx,ps⟩ pa pc hlp _ ((HP.out.below FB.out (Nat.le_refl _)).mono FB.out.size)).mono ?_;rintro e w2 ⟨rfl,hb⟩;have F0:=bB F0 hb;have FB:=tB FB hb;clear hb;obtain ⟨x0,x1,x2,x3,x4,x5,x6,x7,x8,x9,x10,x11,x12,x13,x14,x15,x16⟩:=F0.out.c17)
   by_cases k3:Hs.led h ⟨nx,ps⟩=0
   case neg=>
    have hn:(Hs.led h ⟨nx,ps⟩ != 0)=true:=by simpa using k3
    have HR:Hid (Hs.led h ⟨nx,ps⟩=r):=by
     have q:=HR.out
     rw [if_neg k3] at q
     exact q
    clear k3
    go_wp2_with fail
    go_ret
    exact ⟨ret_int HR.out,FB.out⟩
   have hn3:(Hs.led h ⟨nx,ps⟩ != 0)=false:=by simpa using k3
   have HR:Hid ((if awayB ds.length ps=true then 1 else if inB tk 0 1000000000000000=true then 0 else 3)=r):=by
    have q:=HR.out
    rw [if_pos k3] at q
    exact q
   clear k3
   go_wp2_with fail
   clear x0 x1 x2 x3 x4 x5 x6 x7 x8 x9 x10 x11 x12 x13 x14 x15 x16
   go_loopw [9] (fun ii wr=>∃ i:Nat,ii=I Z i∧i≤ps.length∧(∀ (j:Nat) q,j < i→ps[j]? = some q→q.sh < (ds.length:Int))∧Blk wr w.heap.size (gvs h (.slice da ds.length dc) nx (.slice pa ps.length pc) tk rc)∧Below w.heap.size w wr) (fun ii _=>ps.length - (intOf ii).toNat)
   case atStart=>exact ⟨0,rfl,by omega,fun j q hj=>absurd hj (by omega),F0.out,FB.out⟩
   case round=>
    obtain ⟨i,rfl,hi,hok,h0,h1⟩:=hrel
    have HOK:=zH hok
    have F0:=zH h0
    have FB:=zH h1
    clear hok h0 h1
    obtain ⟨x0,x1,x2,x3,x4,x5,x6,x7,x8,x9,x10,x11,x12,x13,x14,x15,x16⟩:=F0.out.c17
    by_cases hlt:i < ps.length
    ·obtain ⟨p,hp⟩:∃ p,ps[i]? = some p:=⟨_,List.getElem?_eq_getElem hlt⟩
     rcases HP.out with hz | ⟨b,o,ha,hbl,h7⟩
     ·rw [hz] at hlt;simp at hlt
     subst ha
     have FQ:Hid (P7 wr b (o + i * 7) p):=(h7 i p hp).below FB.out hbl
     by_cases kc:(ds.length:Int)≤p.sh
     ·have hc:decide ((ds.length:Int)≤p.sh)=true:=decide_eq_true kc
      have HR:Hid ((1:Int)=r):=by
       have q:=HR.out
       rw [away_step hp kc,if_pos rfl] at q
       exact q
      clear h7 hp kc
      go_wp2_with fail
      have F0:=zH (F0.out.below (Below.refl _ _).drew F0.out.lt)
      have FB:=zH (FB.out.drew)
      have FQ:=zH (FQ.out.below (Below.refl _ _).drew FQ.out.lt)
      have m0:=F0.out.c 12 _ rfl
      have m1:=F0.out.c 14 _ rfl
      have m2:=FQ.out.c3
      refine wp_region_held_drew (S:=(fun w''=>w''.cell? ⟨w.heap.size,12,none⟩=some (.slice da ds.length dc)∧w''.cell? ⟨w.heap.size,14,none⟩=some (.slice (some ⟨b,o,none⟩) ps.length pc)∧w''.cell? ⟨b,o + i * 7 + 3,none⟩=some (I Z p.sh))) (by kernel_rfl) (by (try dsimp only);first | exact ⟨m0,m1,m2⟩ | go_keep) (fun hHeld=>?_)
      obtain ⟨v_1,hw1⟩:∃ v_1,v_1=wr.drew:=⟨_,rfl⟩
      rw [← hw1] at F0 FB FQ hHeld ⊢
      clear hw1
      have m0:=F0.out.c 12 _ rfl
      have m1:=F0.out.c 14 _ rfl
      have m2:=FQ.out.c3
      refine tkz 0 rfl ?_
      refine tkz 1 rfl ?_
      refine tkz 2 rfl ?_
      refine tkz 3 rfl ?_
      refine tkz 4 rfl ?_
      refine tkz 5 rfl ?_
      refine tkz 6 rfl ?_
      refine tkz 7 rfl ?_
      refine tkz 8 rfl ?_
      refine rd1 9 (fun K hK=>?_)
      go_simp
      refine kp hK (fun hHeld=>?_)
      clear hK K
      refine tkz 10 rfl ?_
      refine wpAnyH_done (by kernel_rfl) ?_ _
      go_wp2_with fail
      go_ret
      exact ⟨ret_int HR.out,FB.out⟩
     ·have hc:decide ((ds.length:Int)≤p.sh)=false:=decide_eq_false kc
      have HN:Hid (∀ (j:Nat) q,j < i + 1→ps[j]? = some q→q.sh < (ds.length:Int)):=by
       intro j q hj hq
       by_cases ej:j=i
       ·subst ej
        rw [hp] at hq
        cases hq
        omega
       ·exact HOK.out j q (by omega) hq
      clear h7 hp kc
      go_wp2_with fail
      have F0:=zH (F0.out.below (Below.refl _ _).drew F0.out.lt)
      have FB:=zH (FB.out.drew)
      have FQ:=zH (FQ.out.below (Below.refl _ _).drew FQ.out.lt)
      have m0:=F0.out.c 12 _ rfl
      have m1:=F0.out.c 14 _ rfl
      have m2:=FQ.out.c3
      refine wp_region_held_drew (S:=(fun w''=>w''.cell? ⟨w.heap.size,12,none⟩=some (.slice da ds.length dc)∧w''.cell? ⟨w.heap.size,14,none⟩=some (.slice (some ⟨b,o,none⟩) ps.length pc)∧w''.cell? ⟨b,o + i * 7 + 3,none⟩=some (I Z p.sh))) (by kernel_rfl) (by (try dsimp only);first | exact ⟨m0,m1,m2⟩ | go_keep) (fun hHeld=>?_)
      obtain ⟨v_2,hw1⟩:∃ v_2,v_2=wr.drew:=⟨_,rfl⟩
      rw [← hw1] at F0 FB FQ hHeld ⊢
      clear hw1
      have m0:=F0.out.c 12 _ rfl
      have m1:=F0.out.c 14 _ rfl
      have m2:=FQ.out.c3
      refine tkz 0 rfl ?_
      refine tkz 1 rfl ?_
      refine tkz 2 rfl ?_
      refine tkz 3 rfl ?_
      refine tkz 4 rfl ?_
      refine tkz 5 rfl ?_
      refine tkz 6 rfl ?_
      refine tkz 7 rfl ?_
      refine tkz 8 rfl ?_
      refine rd1 9 (fun K hK=>?_)
      go_simp
      refine kp hK (fun hHeld=>?_)
      clear hK K
      refine tkz 10 rfl ?_
      refine wpAnyH_done (by kernel_rfl) ?_ _
      go_wp2_with fail
      go_roundw
      case rel=>exact ⟨i + 1,by simp,by omega,HN.out,F0.out,FB.out⟩
      case measure=>simp [intOf];omega
    ·have ei:i=ps.length:=by omega
     subst ei
     have hz:awayB ds.length ps=false:=away_none HOK.out
     have HR:Hid ((if inB tk 0 1000000000000000=true then (0:Int) else 3)=r):=by
      have q:=HR.out
      rw [hz,if_neg (by simp)] at q
      exact q
     clear hz HOK hlt hi
     cases k5:inB tk 0 1000000000000000
     ·have HR:Hid ((3:Int)=r):=by
       have q:=HR.out
       rw [k5,if_neg (by simp)] at q
       exact q
      go_wp2_with (go_at_call 16;refine (l1In_any _ _ _ _).mono ?_;rintro e w' ⟨rfl,hw⟩;obtain rfl:=hw.symm;clear hw)
      go_ret
      exact ⟨ret_int HR.out,FB.out⟩
     ·have HR:Hid ((0:Int)=r):=by
       have q:=HR.out
       rw [k5,if_pos rfl] at q
       exact q
      go_wp2_with (go_at_call 16;refine (l1In_any _ _ _ _).mono ?_;rintro e w' ⟨rfl,hw⟩;obtain rfl:=hw.symm;clear hw)
      go_ret
      exact ⟨ret_int HR.out,FB.out⟩
end Go.Proofs.YteimojoicfjdjaaGreat
namespace Go.Proofs.YteimojoicfjdjaaGreat
open Value renaming int → I
open IntKind renaming i64 → Z
open Go.RowKit Pl Sx
set_option linter.unusedVariables false
set_option linter.unusedSimpArgs false
def kQ(T:Nat):Kd Int:=⟨fun v=>match v with
  | .iface t (.agg c)=>match c.toList with
   | [I Z n]=>cond (Nat.beq t T) (some n) none
   | _=>none
  | _=>none,fun n=>.iface T (.agg #[I Z n]),fun x a h=>by
 split at h
 ·rename_i t c
  split at h
  ·rename_i n e
   cases hb:Nat.beq t T <;> rw [hb] at h <;> simp at h
   subst h
   rw [Nat.eq_of_beq_eq_true hb]
   exact congrArg (fun z=>Value.iface T (Value.agg z)) (Array.ext' e)
  ·cases h
 ·cases h⟩
def k0(T:Nat):Kd Unit:=⟨fun v=>match v with
  | .iface t (.agg c)=>match c.toList with
   | []=>cond (Nat.beq t T) (some ()) none
   | _=>none
  | _=>none,fun _=>.iface T (.agg #[]),fun x a h=>by
 split at h
 ·rename_i t c
  split at h
  ·rename_i e
   cases hb:Nat.beq t T <;> rw [hb] at h <;> simp at h
   rw [Nat.eq_of_beq_eq_true hb]
   exact congrArg (fun z=>Value.iface T (Value.agg z)) (Array.ext' e)
  ·cases h
 ·cases h⟩
def ordV(c:Cs)(x:Cm)(d:Int):Value:=
 if x.opn=true∧c.vel=0 then .iface 222 (.agg #[I Z 1])
 else if c.door ≠ 0 then .iface 222 (.agg #[I Z (-1)])
 else if x.brk=true ∨ x.opn=true then .iface 224 (.agg #[])
 else .iface 229 (.agg #[I Z (x.push + d)])
theorem orderFor_any(c:Cs)(x:Cm)(d:Int)(x1:-500≤x.push)(x2:x.push≤500)(d1:-500≤d)(d2:d≤500)(w:World) :
  Calls Tryz.prog 184 #[.agg #[I Z c.pos,I Z c.vel,I Z c.door],.agg #[I Z x.push,.bool x.brk,.bool x.opn],I Z d] w fun e w'=>e=.returned (ordV c x d)∧Below w.heap.size w w':=by
 refine calls_ok mo (L:=[]) Tryz.func184 (args:=[cv c,xv x,I Z d]) (T:=cond x.opn (cond (c.vel == 0) ((.iface 222 (.agg #[I Z 1]):Value)=ordV c x d) (cond (c.door != 0) ((.iface 222 (.agg #[I Z (-1)]):Value)=ordV c x d) (cond (!x.brk) (cond x.opn ((.iface 224 (.agg #[]):Value)=ordV c x d) ((.iface 229 (.agg #[I Z (IntKind.i64.wrap (x.push + d))]):Value)=ordV c x d)) ((.iface 224 (.agg #[]):Value)=ordV c x d)))) (cond (c.door != 0) ((.iface 222 (.agg #[I Z (-1)]):Value)=ordV c x d) (cond (!x.brk) (cond x.opn ((.iface 224 (.agg #[]):Value)=ordV c x d) ((.iface 229 (.agg #[I Z (IntKind.i64.wrap (x.push + d))]):Value)=ordV c x d)) ((.iface 224 (.agg #[]):Value)=ordV c x d)))) (by kernel_rfl) ?_ w
 have e1:IntKind.i64.wrap (x.push + d)=x.push + d:=w64 (by omega) (by omega)
 rw [e1]
 unfold ordV
 repeat' refine if_b (fun _=>?_) (fun _=>?_)
 all_goals simp_all
theorem carAfter_door(h:Hs)(c:Cs)(st:Int)(d1:-100≤c.door)(d2:c.door≤100)(s1:-1≤st)(s2:st≤1)(w:World) :
  Calls Tryz.prog 183 #[.agg #[I Z h.fl,I Z h.gp,I Z h.ln,I Z h.rf,I Z h.sp,I Z h.pu,I Z h.br,I Z h.dr,I Z h.lv,I Z h.dO,I Z h.ld,I Z h.qu],.agg #[I Z c.pos,I Z c.vel,I Z c.door],.iface 222 (.agg #[I Z st])] w fun e w'=>e=.returned (.agg #[I Z c.pos,I Z c.vel,I Z (min (c.door + st) h.dO)])∧Below w.heap.size w w':=by
 refine calls_ok mo (L:=[]) Tryz.func183 (args:=[hv h,cv c,.iface 222 (.agg #[I Z st])]) (T:=cv (⟨c.pos,c.vel,(if h.dO < (IntKind.i64.wrap (c.door + st)) then h.dO else (IntKind.i64.wrap (c.door + st)))⟩:Cs)=cv (⟨c.pos,c.vel,min (c.door + st) h.dO⟩:Cs)) (by kernel_rfl) ?_ w
 rw [w64 (by omega) (by omega)]
 refine congrArg cv ?_
 congr 1
 split <;> omega
def iSide:Ent Tryz.prog:=e1 kI 209 (fun n_=>none) (fun n_=>I Z (sd n_)) fun n_ p w=>bw (sideOf_any n_ w)
def iTop:Ent Tryz.prog:=e3 kU kU kI 208 (fun h_ l_ s_=>some ((0≤l_∧l_≤18446744073709551615)∧(s_=0 ∨ s_=1))) (fun h_ l_ s_=>I Z (topped h_ l_ s_)) fun h_ l_ s_ p w=>have ⟨h1,h2⟩:=p _ rfl;bw (toppedOf_any h_ l_ s_ h1.1 h1.2 h2 w)
theorem brakeOn_any(p v b:Int)(p1:-1000000000000000≤p)(p2:p≤1000000000000000)(v1:-2000≤v)(v2:v≤2000)(b1:1≤b)(b2:b≤2000)(w:World) :
  Calls Tryz.prog 200 #[I Z p,I Z v,I Z b] w fun e w'=>e=.returned (.agg #[I Z 0,I Z (p + brk v b),I Z (brk v b)])∧Below w.heap.size w w':=by
 refine calls_ok mo (L:=[iIn,iSize,iSide,iTop]) Tryz.func200 (args:=[I Z p,I Z v,I Z b]) (T:=cond (!(!(inB p ((-1000000000000000):Int) (1000000000000000:Int)))) (cond (!(!(inB v ((-2000):Int) (2000:Int)))) (cond (!(inB b (1:Int) (2000:Int))) ((.agg #[I Z 3,I Z 0,I Z 0]:Value)=.agg #[I Z 0,I Z (p + brk v b),I Z (brk v b)]) ((-9223372036854775808≤v∧v≤9223372036854775807)∧(-9223372036854775808≤b∧b≤9223372036854775807)∧((0≤(IntKind.u64.wrap ((sz v) - (if (sz b) < (sz v) then (sz b) else (sz v))))∧(IntKind.u64.wrap ((sz v) - (if (sz b) < (sz v) then (sz b) else (sz v))))≤18446744073709551615)∧((sd v)=0 ∨ (sd v)=1))∧(.agg #[I Z 0,I Z (IntKind.i64.wrap (p + (topped (0:Int) (IntKind.u64.wrap ((sz v) - (if (sz b) < (sz v) then (sz b) else (sz v)))) (sd v)))),I Z (topped (0:Int) (IntKind.u64.wrap ((sz v) - (if (sz b) < (sz v) then (sz b) else (sz v)))) (sd v))]:Value)=.agg #[I Z 0,I Z (p + brk v b),I Z (brk v b)])) ((.agg #[I Z 3,I Z 0,I Z 0]:Value)=.agg #[I Z 0,I Z (p + brk v b),I Z (brk v b)])) ((.agg #[I Z 3,I Z 0,I Z 0]:Value)=.agg #[I Z 0,I Z (p + brk v b),I Z (brk v b)])) (by kernel_rfl) ?_ w
 have i1:inB p (-1000000000000000) 1000000000000000=true:=inB_yes p1 p2
 have i2:inB v (-2000) 2000=true:=inB_yes v1 v2
 have i3:inB b 1 2000=true:=inB_yes b1 b2
 have hc:-2000≤brk v b∧brk v b≤2000:=by unfold brk;(repeat' split) <;> omega
 have zv:=sz_nonneg v
 have zv':sz v≤2000:=by unfold sz;split <;> omega
 have zb:sz b=b:=sz_pos (by omega)
 have ht:topped 0 (IntKind.u64.wrap (sz v - (if sz b < sz v then sz b else sz v))) (sd v)=brk v b:=by
  rw [zb]
  by_cases hm:b < sz v
  ·rw [if_pos hm,IntWalk.u64_in _ ⟨by omega,by omega⟩]
   by_cases h:v < 0
   ·rw [sz_neg h] at hm;rw [sz_neg h,sd_neg h];simp only [topped,brk,if_pos h,if_true];(repeat' split) <;> omega
   ·rw [sz_pos h] at hm;rw [sz_pos h,sd_pos h];simp only [topped,brk,if_neg h];(repeat' split) <;> omega
  ·rw [if_neg hm,Int.sub_self,IntWalk.u64_in _ ⟨by omega,by omega⟩]
   by_cases h:v < 0
   ·rw [sz_neg h] at hm;rw [sd_neg h];simp only [topped,brk,if_pos h,if_true];(repeat' split) <;> omega
   ·rw [sz_pos h] at hm;rw [sd_pos h];simp only [topped,brk,if_neg h];(repeat' split) <;> omega
 have hu:0≤IntKind.u64.wrap (sz v - (if sz b < sz v then sz b else sz v))∧IntKind.u64.wrap (sz v - (if sz b < sz v then sz b else sz v))≤18446744073709551615:=by
  rw [IntWalk.u64_in _ ⟨by split <;> omega,by split <;> omega⟩]
  split <;> omega
 rw [i1,i2,i3,ht,w64 (x:=p + brk v b) (by omega) (by omega)]
 exact ⟨by omega,by omega,⟨hu,sd_01 v⟩,rfl⟩
def iBrk:Ent Tryz.prog:=e3 kI kI kI 200 (fun p_ v_ b_=>some ((-1000000000000000≤p_∧p_≤1000000000000000)∧(-2000≤v_∧v_≤2000)∧1≤b_∧b_≤2000)) (fun p_ v_ b_=>.agg #[I Z 0,I Z (p_ + brk v_ b_),I Z (brk v_ b_)]) fun p_ v_ b_ p w=>have ⟨h1,h2,h3⟩:=p _ rfl;brakeOn_any p_ v_ b_ h1.1 h1.2 h2.1 h2.2 h3.1 h3.2 w
theorem carAfter_brake(h:Hs)(c:Cs)(p1:-100000000≤c.pos)(p2:c.pos≤100000000)(v1:-500≤c.vel)(v2:c.vel≤500)(b1:1≤h.br)(b2:h.br≤500)(w:World) :
  Calls Tryz.prog 183 #[.agg #[I Z h.fl,I Z h.gp,I Z h.ln,I Z h.rf,I Z h.sp,I Z h.pu,I Z h.br,I Z h.dr,I Z h.lv,I Z h.dO,I Z h.ld,I Z h.qu],.agg #[I Z c.pos,I Z c.vel,I Z c.door],.iface 224 (.agg #[])] w fun e w'=>e=.returned (.agg #[I Z (c.pos + brk c.vel h.br),I Z (brk c.vel h.br),I Z c.door])∧Below w.heap.size w w':=by
 refine calls_ok mo (L:=[iBrk]) Tryz.func183 (args:=[hv h,cv c,.iface 224 (.agg #[])]) (T:=((-1000000000000000≤c.pos∧c.pos≤1000000000000000)∧(-2000≤c.vel∧c.vel≤2000)∧1≤h.br∧h.br≤2000)∧cv (⟨(c.pos + brk c.vel h.br),(brk c.vel h.br),c.door⟩:Cs)=cv (⟨c.pos + brk c.vel h.br,brk c.vel h.br,c.door⟩:Cs)) (by kernel_rfl) ?_ w
 exact ⟨by omega,rfl⟩
theorem carAfter_push(h:Hs)(c:Cs)(g:Int)(p1:-100000000≤c.pos)(p2:c.pos≤100000000)(v1:-500≤c.vel)(v2:c.vel≤500)(s1:1≤h.sp)(s2:h.sp≤500)(g1:-1000≤g)(g2:g≤1000)(w:World) :
  Calls Tryz.prog 183 #[.agg #[I Z h.fl,I Z h.gp,I Z h.ln,I Z h.rf,I Z h.sp,I Z h.pu,I Z h.br,I Z h.dr,I Z h.lv,I Z h.dO,I Z h.ld,I Z h.qu],.agg #[I Z c.pos,I Z c.vel,I Z c.door],.iface 229 (.agg #[I Z g])] w fun e w'=>e=.returned (.agg #[I Z (c.pos + cl (c.vel + g) (-h.sp) h.sp),I Z (cl (c.vel + g) (-h.sp) h.sp),I Z c.door])∧Below w.heap.size w w':=by
 refine calls_ok mo (L:=[iCl]) Tryz.func183 (args:=[hv h,cv c,.iface 229 (.agg #[I Z g])]) (T:=cv (⟨(IntKind.i64.wrap (c.pos + (cl (IntKind.i64.wrap (c.vel + g)) (IntKind.i64.wrap (0 - h.sp)) h.sp))),(cl (IntKind.i64.wrap (c.vel + g)) (IntKind.i64.wrap (0 - h.sp)) h.sp),c.door⟩:Cs)=cv (⟨c.pos + cl (c.vel + g) (-h.sp) h.sp,cl (c.vel + g) (-h.sp) h.sp,c.door⟩:Cs)) (by kernel_rfl) ?_ w
 have e1:IntKind.i64.wrap (c.vel + g)=c.vel + g:=w64 (by omega) (by omega)
 have e2:IntKind.i64.wrap (0 - h.sp)=-h.sp:=by rw [w64 (by omega) (by omega)];omega
 rw [e1,e2,w64 (x:=c.pos + cl (c.vel + g) (-h.sp) h.sp) (by unfold cl;omega) (by unfold cl;omega)]
def aDoor:Ent Tryz.prog:=e3 kH kC (kQ 222) 183 (fun h_ c_ st_=>some ((-100≤c_.door∧c_.door≤100)∧-1≤st_∧st_≤1)) (fun h_ c_ st_=>.agg #[I Z ((⟨c_.pos,c_.vel,min (c_.door + st_) h_.dO⟩:Cs).pos),I Z ((⟨c_.pos,c_.vel,min (c_.door + st_) h_.dO⟩:Cs).vel),I Z ((⟨c_.pos,c_.vel,min (c_.door + st_) h_.dO⟩:Cs).door)]) fun h_ c_ st_ p w=>have ⟨h1,h2⟩:=p _ rfl;carAfter_door h_ c_ st_ h1.1 h1.2 h2.1 h2.2 w
def aBrake:Ent Tryz.prog:=e3 kH kC (k0 224) 183 (fun h_ c_ _=>some (((-100000000≤c_.pos∧c_.pos≤100000000)∧-500≤c_.vel∧c_.vel≤500)∧1≤h_.br∧h_.br≤500)) (fun h_ c_ _=>.agg #[I Z ((⟨c_.pos + brk c_.vel h_.br,brk c_.vel h_.br,c_.door⟩:Cs).pos),I Z ((⟨c_.pos + brk c_.vel h_.br,brk c_.vel h_.br,c_.door⟩:Cs).vel),I Z ((⟨c_.pos + brk c_.vel h_.br,brk c_.vel h_.br,c_.door⟩:Cs).door)]) fun h_ c_ _ p w=>have ⟨⟨h1,h2⟩,h3⟩:=p _ rfl;carAfter_brake h_ c_ h1.1 h1.2 h2.1 h2.2 h3.1 h3.2 w
def aPush:Ent Tryz.prog:=e3 kH kC (kQ 229) 183 (fun h_ c_ g_=>some (((-100000000≤c_.pos∧c_.pos≤100000000)∧-500≤c_.vel∧c_.vel≤500)∧(1≤h_.sp∧h_.sp≤500)∧-1000≤g_∧g_≤1000)) (fun h_ c_ g_=>.agg #[I Z ((⟨c_.pos + cl (c_.vel + g_) (-h_.sp) h_.sp,cl (c_.vel + g_) (-h_.sp) h_.sp,c_.door⟩:Cs).pos),I Z ((⟨c_.pos + cl (c_.vel + g_) (-h_.sp) h_.sp,cl (c_.vel + g_) (-h_.sp) h_.sp,c_.door⟩:Cs).vel),I Z ((⟨c_.pos + cl (c_.vel + g_) (-h_.sp) h_.sp,cl (c_.vel + g_) (-h_.sp) h_.sp,c_.door⟩:Cs).door)]) fun h_ c_ g_ p w=>have ⟨⟨h1,h2⟩,h3,h4⟩:=p _ rfl;carAfter_push h_ c_ g_ h1.1 h1.2 h2.1 h2.2 h3.1 h3.2 h4.1 h4.2 w
def oOpen:Ent Tryz.prog:=e3 kC kX kI 184 (fun c_ x_ d_=>some (((-500≤x_.push∧x_.push≤500)∧-500≤d_∧d_≤500)∧x_.opn=true∧c_.vel=0)) (fun c_ x_ d_=>.iface 222 (.agg #[I Z 1])) fun c_ x_ d_ p w=>have ⟨h1,h2⟩:=p _ rfl;(by have q:=orderFor_any c_ x_ d_ h1.1.1 h1.1.2 h1.2.1 h1.2.2 w;unfold ordV at q;rw [if_pos h2] at q;exact q)
def oDoor:Ent Tryz.prog:=e3 kC kX kI 184 (fun c_ x_ d_=>some (((-500≤x_.push∧x_.push≤500)∧-500≤d_∧d_≤500)∧¬ (x_.opn=true∧c_.vel=0)∧c_.door ≠ 0)) (fun c_ x_ d_=>.iface 222 (.agg #[I Z (-1)])) fun c_ x_ d_ p w=>have ⟨h1,h2⟩:=p _ rfl;(by have q:=orderFor_any c_ x_ d_ h1.1.1 h1.1.2 h1.2.1 h1.2.2 w;unfold ordV at q;rw [if_neg h2.1,if_pos h2.2] at q;exact q)
def oBrake:Ent Tryz.prog:=e3 kC kX kI 184 (fun c_ x_ d_=>some (((-500≤x_.push∧x_.push≤500)∧-500≤d_∧d_≤500)∧¬ (x_.opn=true∧c_.vel=0)∧¬ c_.door ≠ 0∧(x_.brk=true ∨ x_.opn=true))) (fun c_ x_ d_=>.iface 224 (.agg #[])) fun c_ x_ d_ p w=>have ⟨h1,h2⟩:=p _ rfl;(by have q:=orderFor_any c_ x_ d_ h1.1.1 h1.1.2 h1.2.1 h1.2.2 w;unfold ordV at q;rw [if_neg h2.1,if_neg h2.2.1,if_pos h2.2.2] at q;exact q)
def oPush:Ent Tryz.prog:=e3 kC kX kI 184 (fun c_ x_ d_=>some (((-500≤x_.push∧x_.push≤500)∧-500≤d_∧d_≤500)∧¬ (x_.opn=true∧c_.vel=0)∧¬ c_.door ≠ 0∧¬ (x_.brk=true ∨ x_.opn=true))) (fun c_ x_ d_=>.iface 229 (.agg #[I Z (x_.push + d_)])) fun c_ x_ d_ p w=>have ⟨h1,h2⟩:=p _ rfl;(by have q:=orderFor_any c_ x_ d_ h1.1.1 h1.1.2 h1.2.1 h1.2.2 w;unfold ordV at q;rw [if_neg h2.1,if_neg h2.2.1,if_neg h2.2.2] at q;exact q)
theorem carBehind_any(h:Hs)(c:Cs)(x:Cm)(d:Int)(k:CarOk h c)(x1:-h.pu≤x.push)(x2:x.push≤h.pu)(d1:-h.dr≤d)(d2:d≤h.dr)(g:Cs)(hg:stepC h c x d=g)(w:World) :
  Calls Tryz.prog 145 #[.agg #[I Z h.fl,I Z h.gp,I Z h.ln,I Z h.rf,I Z h.sp,I Z h.pu,I Z h.br,I Z h.dr,I Z h.lv,I Z h.dO,I Z h.ld,I Z h.qu],.agg #[I Z c.pos,I Z c.vel,I Z c.door],.agg #[I Z x.push,.bool x.brk,.bool x.opn],I Z d] w fun e w'=>e=.returned (.agg #[I Z g.pos,I Z g.vel,I Z g.door])∧Below w.heap.size w w':=by
 subst hg
 have A:=k.all;have O:=k.ok.all
 by_cases z1:x.opn=true∧c.vel=0
 ·refine calls_ok mo (L:=[oOpen,aDoor]) Tryz.func145 (args:=[hv h,cv c,xv x,I Z d]) (T:=(((-500≤x.push∧x.push≤500)∧-500≤d∧d≤500)∧x.opn=true∧c.vel=0)∧((-100≤c.door∧c.door≤100)∧-1≤(1:Int)∧(1:Int)≤1)∧cv (⟨c.pos,c.vel,min (c.door + (1:Int)) h.dO⟩:Cs)=cv (stepC h c x d)) (by kernel_rfl) ?_ w
  unfold stepC
  rw [if_pos (Or.inr z1),if_pos z1.1,Int.min_comm]
  exact ⟨⟨by omega,z1⟩,by omega,rfl⟩
 by_cases z2:c.door ≠ 0
 ·refine calls_ok mo (L:=[oDoor,aDoor]) Tryz.func145 (args:=[hv h,cv c,xv x,I Z d]) (T:=(((-500≤x.push∧x.push≤500)∧-500≤d∧d≤500)∧¬ (x.opn=true∧c.vel=0)∧c.door ≠ 0)∧((-100≤c.door∧c.door≤100)∧-1≤((-1):Int)∧((-1):Int)≤1)∧cv (⟨c.pos,c.vel,min (c.door + ((-1):Int)) h.dO⟩:Cs)=cv (stepC h c x d)) (by kernel_rfl) ?_ w
  unfold stepC
  have no:¬ x.opn=true:=fun e=>z1 ⟨e,by omega⟩
  rw [if_pos (Or.inl z2),if_neg no]
  exact ⟨⟨by omega,z1,z2⟩,by omega,congrArg cv (by congr 1;omega)⟩
 by_cases z3:x.brk=true ∨ x.opn=true
 ·refine calls_ok mo (L:=[oBrake,aBrake]) Tryz.func145 (args:=[hv h,cv c,xv x,I Z d]) (T:=(((-500≤x.push∧x.push≤500)∧-500≤d∧d≤500)∧¬ (x.opn=true∧c.vel=0)∧¬ c.door ≠ 0∧(x.brk=true ∨ x.opn=true))∧(((-100000000≤c.pos∧c.pos≤100000000)∧-500≤c.vel∧c.vel≤500)∧1≤h.br∧h.br≤500)∧cv (⟨c.pos + brk c.vel h.br,brk c.vel h.br,c.door⟩:Cs)=cv (stepC h c x d)) (by kernel_rfl) ?_ w
  unfold stepC
  rw [if_neg (fun e=>e.elim z2 z1),if_pos z3]
  exact ⟨⟨by omega,z1,z2,z3⟩,by omega,rfl⟩
 ·refine calls_ok mo (L:=[oPush,aPush]) Tryz.func145 (args:=[hv h,cv c,xv x,I Z d]) (T:=(((-500≤x.push∧x.push≤500)∧-500≤d∧d≤500)∧¬ (x.opn=true∧c.vel=0)∧¬ c.door ≠ 0∧¬ (x.brk=true ∨ x.opn=true))∧(((-100000000≤c.pos∧c.pos≤100000000)∧-500≤c.vel∧c.vel≤500)∧(1≤h.sp∧h.sp≤500)∧-1000≤(x.push + d)∧(x.push + d)≤1000)∧cv (⟨c.pos + cl (c.vel + (x.push + d)) (-h.sp) h.sp,cl (c.vel + (x.push + d)) (-h.sp) h.sp,c.door⟩:Cs)=cv (stepC h c x d)) (by kernel_rfl) ?_ w
  unfold stepC
  rw [if_neg (fun e=>e.elim z2 z1),if_neg z3]
  exact ⟨⟨by omega,z1,z2,z3⟩,by omega,congrArg cv (by unfold cl clip;congr 1 <;> (repeat' split) <;> omega)⟩
set_option linter.unusedVariables false
set_option linter.unusedSimpArgs false
theorem implShaftFault_any(h:Hs)(s:Sh)(w:World) :
  Calls Tryz.prog 79 #[.agg #[I Z h.fl,I Z h.gp,I Z h.ln,I Z h.rf,I Z h.sp,I Z h.pu,I Z h.br,I Z h.dr,I Z h.lv,I Z h.dO,I Z h.ld,I Z h.qu],.agg #[I Z s.lo.pos,I Z s.lo.vel,I Z s.lo.door,I Z s.up.pos,I Z s.up.vel,I Z s.up.door]] w fun e w'=>e=.returned (I Z (h.shaft s))∧Below w.heap.size w w':=by
 refine calls_ok mo (L:=[iCar,iOr,iSpare,iHs,iHigh,iLs,iLow]) Tryz.func79 (args:=[hv h,sv s]) (T:=cond ((orI (h.car s.lo) (h.car s.up)) != 0) (IsI (orI (h.car s.lo) (h.car s.up)) (h.shaft s)) ((h.car s.lo=0∧h.car s.up=0)∧cond (decide ((h.lo s.up.pos s.up.vel - h.hi s.lo.pos s.lo.vel - h.ln) < 0)) (IsI 1 (h.shaft s)) ((h.Ok∧(-100000000≤s.up.pos∧s.up.pos≤100000000)∧-500≤s.up.vel∧s.up.vel≤500)∧(h.Ok)∧cond (!(decide ((h.hi s.up.pos s.up.vel) > h.high))) ((h.Ok∧(-100000000≤s.lo.pos∧s.lo.pos≤100000000)∧-500≤s.lo.vel∧s.lo.vel≤500)∧(h.Ok)∧cond (decide ((h.lo s.lo.pos s.lo.vel) < h.low)) (IsI 3 (h.shaft s)) (IsI 0 (h.shaft s))) (IsI 3 (h.shaft s))))) (by kernel_rfl) ?_ w
 unfold Hs.shaft orI
 by_cases e:h.car s.lo=0
 ·by_cases f:h.car s.up=0
  ·have a:=Hs.car_zero e;have b:=Hs.car_zero f
   have A:=a.all;have B:=b.all;have o:=a.ok
   rw [if_pos e,if_pos e,if_pos f]
   unfold Hs.shaftC
   repeat' first | exact o | exact kl | exact ku | refine if_b (fun _=>?_) (fun _=>?_) | refine iI ?_ | refine iB ?_ | refine congrArg jv ?_ | apply And.intro
   all_goals try omega
   all_goals simp_all
   all_goals omega
  ·rw [if_pos e,if_pos e,if_neg f]
   refine if_b (fun _=>iI rfl) (fun q=>absurd (by simpa using q) f)
 ·rw [if_neg e,if_neg e]
  refine if_b (fun _=>iI rfl) (fun q=>absurd (by simpa using q) e)
def iShaft:Ent Tryz.prog:=e2 kH kS 79 (fun h_ s_=>none) (fun h_ s_=>I Z (h_.shaft s_)) fun h_ s_ p w=>implShaftFault_any h_ s_ w
theorem pairFault_any(h:Hs)(s:Sh)(a b:Cm)(w:World) :
  Calls Tryz.prog 143 #[.agg #[I Z h.fl,I Z h.gp,I Z h.ln,I Z h.rf,I Z h.sp,I Z h.pu,I Z h.br,I Z h.dr,I Z h.lv,I Z h.dO,I Z h.ld,I Z h.qu],.agg #[I Z s.lo.pos,I Z s.lo.vel,I Z s.lo.door,I Z s.up.pos,I Z s.up.vel,I Z s.up.door],.agg #[I Z a.push,.bool a.brk,.bool a.opn],.agg #[I Z b.push,.bool b.brk,.bool b.opn]] w fun e w'=>e=.returned (I Z (Hs.pairK h s a b))∧Below w.heap.size w w':=by
 refine calls_ok mo (L:=[iShaft,iCmd,iOr]) Tryz.func143 (args:=[hv h,sv s,xv a,xv b]) (T:=IsI (orI (h.shaft s) (orI (h.cmd a) (h.cmd b))) (Hs.pairK h s a b)) (by kernel_rfl) ?_ w
 exact iI rfl
def iPair:Ent Tryz.prog:=e4 kH kS kX kX 143 (fun h_ s_ a_ b_=>none) (fun h_ s_ a_ b_=>I Z (Hs.pairK h_ s_ a_ b_)) fun h_ s_ a_ b_ p w=>pairFault_any h_ s_ a_ b_ w
def iBehind:Ent Tryz.prog:=e4 kH kC kX kI 145 (fun h_ c_ x_ d_=>some (CarOk h_ c_∧(-h_.pu≤x_.push∧x_.push≤h_.pu)∧-h_.dr≤d_∧d_≤h_.dr)) (fun h_ c_ x_ d_=>.agg #[I Z ((stepC h_ c_ x_ d_).pos),I Z ((stepC h_ c_ x_ d_).vel),I Z ((stepC h_ c_ x_ d_).door)]) fun h_ c_ x_ d_ p w=>have ⟨h1,h2,h3⟩:=p _ rfl;carBehind_any h_ c_ x_ d_ h1 h2.1 h2.2 h3.1 h3.2 _ rfl w
theorem highestBehind_any(h:Hs)(c:Cs)(x:Cm)(k:CarOk h c)(x1:-h.pu≤x.push)(x2:x.push≤h.pu)(w:World) :
  Calls Tryz.prog 199 #[.agg #[I Z h.fl,I Z h.gp,I Z h.ln,I Z h.rf,I Z h.sp,I Z h.pu,I Z h.br,I Z h.dr,I Z h.lv,I Z h.dO,I Z h.ld,I Z h.qu],.agg #[I Z c.pos,I Z c.vel,I Z c.door],.agg #[I Z x.push,.bool x.brk,.bool x.opn]] w fun e w'=>e=.returned (I Z (Hs.wh h c x))∧Below w.heap.size w w':=by
 refine calls_ok mo (L:=[iBehind,iHs]) Tryz.func199 (args:=[hv h,cv c,xv x]) (T:=(CarOk h c∧(-h.pu≤x.push∧x.push≤h.pu)∧-h.dr≤h.dr∧h.dr≤h.dr)∧(h.Ok∧(-100000000≤(stepC h c x h.dr).pos∧(stepC h c x h.dr).pos≤100000000)∧-500≤(stepC h c x h.dr).vel∧(stepC h c x h.dr).vel≤500)∧IsI (h.hi (stepC h c x h.dr).pos (stepC h c x h.dr).vel) (Hs.wh h c x)) (by kernel_rfl) ?_ w
 have o:=k.ok;have A:=o.all;have B:=step_env (x:=x) (d:=h.dr) k
 exact ⟨⟨k,by omega,by omega⟩,⟨o,by omega,by omega⟩,rfl⟩
def iWh:Ent Tryz.prog:=e3 kH kC kX 199 (fun h_ c_ x_=>some (CarOk h_ c_∧-h_.pu≤x_.push∧x_.push≤h_.pu)) (fun h_ c_ x_=>I Z (Hs.wh h_ c_ x_)) fun h_ c_ x_ p w=>have ⟨h1,h2,h3⟩:=p _ rfl;highestBehind_any h_ c_ x_ h1 h2 h3 w
theorem lowestBehind_any(h:Hs)(c:Cs)(x:Cm)(k:CarOk h c)(x1:-h.pu≤x.push)(x2:x.push≤h.pu)(w:World) :
  Calls Tryz.prog 198 #[.agg #[I Z h.fl,I Z h.gp,I Z h.ln,I Z h.rf,I Z h.sp,I Z h.pu,I Z h.br,I Z h.dr,I Z h.lv,I Z h.dO,I Z h.ld,I Z h.qu],.agg #[I Z c.pos,I Z c.vel,I Z c.door],.agg #[I Z x.push,.bool x.brk,.bool x.opn]] w fun e w'=>e=.returned (I Z (Hs.wl h c x))∧Below w.heap.size w w':=by
 refine calls_ok mo (L:=[iBehind,iLs]) Tryz.func198 (args:=[hv h,cv c,xv x]) (T:=(CarOk h c∧(-h.pu≤x.push∧x.push≤h.pu)∧-h.dr≤(IntKind.i64.wrap (0 - h.dr))∧(IntKind.i64.wrap (0 - h.dr))≤h.dr)∧(h.Ok∧(-100000000≤(stepC h c x (IntKind.i64.wrap (0 - h.dr))).pos∧(stepC h c x (IntKind.i64.wrap (0 - h.dr))).pos≤100000000)∧-500≤(stepC h c x (IntKind.i64.wrap (0 - h.dr))).vel∧(stepC h c x (IntKind.i64.wrap (0 - h.dr))).vel≤500)∧IsI (h.lo (stepC h c x (IntKind.i64.wrap (0 - h.dr))).pos (stepC h c x (IntKind.i64.wrap (0 - h.dr))).vel) (Hs.wl h c x)) (by kernel_rfl) ?_ w
 have o:=k.ok;have A:=o.all;have B:=step_env (x:=x) (d:=-h.dr) k
 simp (disch:=omega) only [w64,Int.zero_sub]
 exact ⟨⟨k,by omega,by omega⟩,⟨o,by omega,by omega⟩,rfl⟩
def iWl:Ent Tryz.prog:=e3 kH kC kX 198 (fun h_ c_ x_=>some (CarOk h_ c_∧-h_.pu≤x_.push∧x_.push≤h_.pu)) (fun h_ c_ x_=>I Z (Hs.wl h_ c_ x_)) fun h_ c_ x_ p w=>have ⟨h1,h2,h3⟩:=p _ rfl;lowestBehind_any h_ c_ x_ h1 h2 h3 w
theorem isSafe_any(h:Hs)(s:Sh)(p:Pr)(kl:CarOk h s.lo)(ku:CarOk h s.up)(a1:-h.pu≤p.a.push)(a2:p.a.push≤h.pu)(b1:-h.pu≤p.b.push)(b2:p.b.push≤h.pu)(w:World) :
  Calls Tryz.prog 182 #[.agg #[I Z h.fl,I Z h.gp,I Z h.ln,I Z h.rf,I Z h.sp,I Z h.pu,I Z h.br,I Z h.dr,I Z h.lv,I Z h.dO,I Z h.ld,I Z h.qu],.agg #[I Z s.lo.pos,I Z s.lo.vel,I Z s.lo.door,I Z s.up.pos,I Z s.up.vel,I Z s.up.door],.agg #[I Z p.a.push,.bool p.a.brk,.bool p.a.opn,I Z p.b.push,.bool p.b.brk,.bool p.b.opn]] w fun e w'=>e=.returned (.bool (Hs.may h s p.a p.b))∧Below w.heap.size w w':=by
 refine calls_ok mo (L:=[iWl,iWh,iHigh,iLow]) Tryz.func182 (args:=[hv h,sv s,jv p]) (T:=(CarOk h s.up∧-h.pu≤p.b.push∧p.b.push≤h.pu)∧(CarOk h s.lo∧-h.pu≤p.a.push∧p.a.push≤h.pu)∧cond (decide ((IntKind.i64.wrap ((Hs.wl h s.up p.b) - (Hs.wh h s.lo p.a))) ≥ h.ln)) ((CarOk h s.up∧-h.pu≤p.b.push∧p.b.push≤h.pu)∧(h.Ok)∧cond (decide ((Hs.wh h s.up p.b)≤h.high)) ((CarOk h s.lo∧-h.pu≤p.a.push∧p.a.push≤h.pu)∧(h.Ok)∧IsB (decide ((Hs.wl h s.lo p.a) ≥ h.low)) (Hs.may h s p.a p.b)) (IsB false (Hs.may h s p.a p.b))) (IsB false (Hs.may h s p.a p.b))) (by kernel_rfl) ?_ w
 have o:=kl.ok;have A:=o.all;have B:=Hs.wh_bd kl p.a;have C:=Hs.wl_bd kl p.a;have D:=Hs.wh_bd ku p.b;have E:=Hs.wl_bd ku p.b
 unfold Hs.may
 repeat' first | exact o | exact kl | exact ku | refine if_b (fun _=>?_) (fun _=>?_) | refine iI ?_ | refine iB ?_ | refine congrArg jv ?_ | apply And.intro
 all_goals try omega
 all_goals simp (disch:=omega) only [w64] at *
 all_goals simp_all
 all_goals omega
def iSafe:Ent Tryz.prog:=e3 kH kS kJ 182 (fun h_ s_ p_=>some ((CarOk h_ s_.lo∧CarOk h_ s_.up)∧(-h_.pu≤p_.a.push∧p_.a.push≤h_.pu)∧-h_.pu≤p_.b.push∧p_.b.push≤h_.pu)) (fun h_ s_ p_=>.bool (Hs.may h_ s_ p_.a p_.b)) fun h_ s_ p_ p w=>have ⟨h1,h2,h3⟩:=p _ rfl;isSafe_any h_ s_ p_ h1.1 h1.2 h2.1 h2.2 h3.1 h3.2 w
theorem guarded_p(h:Hs)(s:Sh)(p:Pr)(hs:h.shaft s=0)(a1:-h.pu≤p.a.push)(a2:p.a.push≤h.pu)(b1:-h.pu≤p.b.push)(b2:p.b.push≤h.pu)(w:World) :
  Calls Tryz.prog 144 #[.agg #[I Z h.fl,I Z h.gp,I Z h.ln,I Z h.rf,I Z h.sp,I Z h.pu,I Z h.br,I Z h.dr,I Z h.lv,I Z h.dO,I Z h.ld,I Z h.qu],.agg #[I Z s.lo.pos,I Z s.lo.vel,I Z s.lo.door,I Z s.up.pos,I Z s.up.vel,I Z s.up.door],.agg #[I Z p.a.push,.bool p.a.brk,.bool p.a.opn,I Z p.b.push,.bool p.b.brk,.bool p.b.opn]] w fun e w'=>e=.returned (.agg #[I Z (Hs.grd h s p.a p.b).1.push,.bool (Hs.grd h s p.a p.b).1.brk,.bool (Hs.grd h s p.a p.b).1.opn,I Z (Hs.grd h s p.a p.b).2.push,.bool (Hs.grd h s p.a p.b).2.brk,.bool (Hs.grd h s p.a p.b).2.opn])∧Below w.heap.size w w':=by
 refine calls_ok mo (L:=[iHeld,iSafe]) Tryz.func144 (args:=[hv h,sv s,jv p]) (T:=((CarOk h s.lo∧CarOk h s.up)∧(-h.pu≤p.a.push∧p.a.push≤h.pu)∧-h.pu≤p.b.push∧p.b.push≤h.pu)∧cond (Hs.may h s p.a p.b) (jv p=jv (⟨(Hs.grd h s p.a p.b).1,(Hs.grd h s p.a p.b).2⟩:Pr)) (((CarOk h s.lo∧CarOk h s.up)∧(-h.pu≤(⟨(brkFor s.lo p.a),p.b⟩:Pr).a.push∧(⟨(brkFor s.lo p.a),p.b⟩:Pr).a.push≤h.pu)∧-h.pu≤(⟨(brkFor s.lo p.a),p.b⟩:Pr).b.push∧(⟨(brkFor s.lo p.a),p.b⟩:Pr).b.push≤h.pu)∧cond (Hs.may h s (⟨(brkFor s.lo p.a),p.b⟩:Pr).a (⟨(brkFor s.lo p.a),p.b⟩:Pr).b) (jv (⟨(brkFor s.lo p.a),p.b⟩:Pr)=jv (⟨(Hs.grd h s p.a p.b).1,(Hs.grd h s p.a p.b).2⟩:Pr)) (((CarOk h s.lo∧CarOk h s.up)∧(-h.pu≤(⟨p.a,(brkFor s.up p.b)⟩:Pr).a.push∧(⟨p.a,(brkFor s.up p.b)⟩:Pr).a.push≤h.pu)∧-h.pu≤(⟨p.a,(brkFor s.up p.b)⟩:Pr).b.push∧(⟨p.a,(brkFor s.up p.b)⟩:Pr).b.push≤h.pu)∧cond (Hs.may h s (⟨p.a,(brkFor s.up p.b)⟩:Pr).a (⟨p.a,(brkFor s.up p.b)⟩:Pr).b) (jv (⟨p.a,(brkFor s.up p.b)⟩:Pr)=jv (⟨(Hs.grd h s p.a p.b).1,(Hs.grd h s p.a p.b).2⟩:Pr)) (((CarOk h s.lo∧CarOk h s.up)∧(-h.pu≤(⟨(brkFor s.lo p.a),(brkFor s.up p.b)⟩:Pr).a.push∧(⟨(brkFor s.lo p.a),(brkFor s.up p.b)⟩:Pr).a.push≤h.pu)∧-h.pu≤(⟨(brkFor s.lo p.a),(brkFor s.up p.b)⟩:Pr).b.push∧(⟨(brkFor s.lo p.a),(brkFor s.up p.b)⟩:Pr).b.push≤h.pu)∧cond (Hs.may h s (⟨(brkFor s.lo p.a),(brkFor s.up p.b)⟩:Pr).a (⟨(brkFor s.lo p.a),(brkFor s.up p.b)⟩:Pr).b) (jv (⟨(brkFor s.lo p.a),(brkFor s.up p.b)⟩:Pr)=jv (⟨(Hs.grd h s p.a p.b).1,(Hs.grd h s p.a p.b).2⟩:Pr)) (jv (⟨(brkFor s.lo p.a),(brkFor s.up p.b)⟩:Pr)=jv (⟨(Hs.grd h s p.a p.b).1,(Hs.grd h s p.a p.b).2⟩:Pr)))))) (by kernel_rfl) ?_ w
 obtain ⟨kl,ku,_⟩:=shaft_parts hs
 have kl:=Hs.car_zero kl;have ku:=Hs.car_zero ku
 have o:=kl.ok;have A:=o.all
 have B:∀ c x,-h.pu≤x.push→x.push≤h.pu→-h.pu≤(brkFor c x).push∧(brkFor c x).push≤h.pu:=fun c x h1 h2=>by unfold brkFor;split <;> (try dsimp only) <;> omega
 have B1:=B s.lo p.a a1 a2;have B2:=B s.up p.b b1 b2
 have M:=may_brakes hs p.a p.b
 unfold Hs.grd
 repeat' first | exact o | exact kl | exact ku | refine if_b (fun _=>?_) (fun _=>?_) | refine iI ?_ | refine iB ?_ | refine congrArg jv ?_ | apply And.intro
 all_goals try omega
 all_goals simp_all
def iGrd:Ent Tryz.prog:=e3 kH kS kJ 144 (fun h_ s_ p_=>some (h_.shaft s_=0∧(-h_.pu≤p_.a.push∧p_.a.push≤h_.pu)∧-h_.pu≤p_.b.push∧p_.b.push≤h_.pu)) (fun h_ s_ p_=>.agg #[I Z (((⟨(Hs.grd h_ s_ p_.a p_.b).1,(Hs.grd h_ s_ p_.a p_.b).2⟩:Pr).a).push),.bool (((⟨(Hs.grd h_ s_ p_.a p_.b).1,(Hs.grd h_ s_ p_.a p_.b).2⟩:Pr).a).brk),.bool (((⟨(Hs.grd h_ s_ p_.a p_.b).1,(Hs.grd h_ s_ p_.a p_.b).2⟩:Pr).a).opn),I Z (((⟨(Hs.grd h_ s_ p_.a p_.b).1,(Hs.grd h_ s_ p_.a p_.b).2⟩:Pr).b).push),.bool (((⟨(Hs.grd h_ s_ p_.a p_.b).1,(Hs.grd h_ s_ p_.a p_.b).2⟩:Pr).b).brk),.bool (((⟨(Hs.grd h_ s_ p_.a p_.b).1,(Hs.grd h_ s_ p_.a p_.b).2⟩:Pr).b).opn)]) fun h_ s_ p_ p w=>have ⟨h1,h2,h3⟩:=p _ rfl;guarded_p h_ s_ p_ h1 h2.1 h2.2 h3.1 h3.2 w
end Go.Proofs.YteimojoicfjdjaaGreat
namespace Go.Proofs.YteimojoicfjdjaaGreat
open Go.RowKit Pl
set_option linter.unusedSimpArgs false
set_option linter.unusedVariables false
def Hs.needK(h:Hs)(x:Lg)(sh ca:Int):Int × Int × Int:=if Hs.askd h x sh ca 0=0 then Hs.need h x.ps sh ca else (Hs.askd h x sh ca 0,0,0)
end Go.Proofs.YteimojoicfjdjaaGreat
