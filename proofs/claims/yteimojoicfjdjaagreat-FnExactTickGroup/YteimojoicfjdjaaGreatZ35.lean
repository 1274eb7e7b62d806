/- Parts of the proof: XSp, NearI, SpanKf, ProfI, XJi, XGl, PersT, SpanM, SpanN. -/
import Derived.Test.YteimojoicfjdjaaGreatZ16
import Derived.Test.YteimojoicfjdjaaGreatZ18
import Derived.Test.YteimojoicfjdjaaGreatZ21
import Derived.Test.YteimojoicfjdjaaGreatZ23
import Derived.Test.YteimojoicfjdjaaGreatZ25
import Derived.Test.YteimojoicfjdjaaGreatZ29
import Derived.Test.YteimojoicfjdjaaGreatZ30
import Derived.Test.YteimojoicfjdjaaGreatZ33
import Derived.Deep.RegionHeld3
import Derived.BigGuardPart
import Derived.OwnWalk
import Derived.WalkKit
namespace Go.Proofs.YteimojoicfjdjaaGreat
open Value renaming int → I
open IntKind renaming i64 → Z
open Go.RowKit Pl Sx
set_option linter.unusedVariables false
def eCover:Ent Tryz.prog:=e2 kH kC 119 (fun h_ c_=>some (CarOk h_ c_)) (fun h_ c_=>.agg #[I Z ((Hs.cover h_ c_).lo),I Z ((Hs.cover h_ c_).hi)]) fun h_ c_ p w=>l6Cover_any h_ c_ (p _ rfl) _ rfl w
theorem l6Release_any(h:Hs)(x:Ss)(s:Sh)(kl:CarOk h s.lo)(ku:CarOk h s.up)(y:Ss)(hy:Hs.relS h x s=y)(w:World) :
  Calls Tryz.prog 72 #[.agg #[I Z h.fl,I Z h.gp,I Z h.ln,I Z h.rf,I Z h.sp,I Z h.pu,I Z h.br,I Z h.dr,I Z h.lv,I Z h.dO,I Z h.ld,I Z h.qu],.agg #[I Z x.l.lo,I Z x.l.hi,I Z x.u.lo,I Z x.u.hi],.agg #[I Z s.lo.pos,I Z s.lo.vel,I Z s.lo.door,I Z s.up.pos,I Z s.up.vel,I Z s.up.door]] w fun e w'=>e=.returned (.agg #[I Z y.l.lo,I Z y.l.hi,I Z y.u.lo,I Z y.u.hi])∧Below w.heap.size w w':=by
 subst hy
 refine calls_ok mo (L:=[eCover,eCut]) Tryz.func72 (args:=[hv h,nv x,sv s]) (T:=(CarOk h s.lo)∧(CarOk h s.up)∧nv (⟨(cutS x.l (Hs.cover h s.lo)),(cutS x.u (Hs.cover h s.up))⟩:Ss)=nv (Hs.relS h x s)) (by kernel_rfl) ?_ w
 exact ⟨kl,ku,rfl⟩
end Go.Proofs.YteimojoicfjdjaaGreat
namespace Go.Proofs.YteimojoicfjdjaaGreat
set_option maxHeartbeats 4000000
open Value renaming int → I
open IntKind renaming i64 → Z
open Go.RowKit Pl
theorem nearestFloor_any(h:Hs)(o:h.Ok)(p:Int)(p1:-4611686018427387904≤p)(p2:p≤4611686018427387904)(w:World) :
  Calls Tryz.prog 193 #[.agg #[I Z h.fl,I Z h.gp,I Z h.ln,I Z h.rf,I Z h.sp,I Z h.pu,I Z h.br,I Z h.dr,I Z h.lv,I Z h.dO,I Z h.ld,I Z h.qu],I Z p] w fun e w'=>∃ r,h.NearTo p (h.fl + 1) r∧e=.returned (I Z r)∧Below w.heap.size w w':=by
 have l1:=o.fl1;have l2:=o.fl2
 have HO:Hid h.Ok:=o
 have HH:Hid (HAt (w.alloc (.cells #[I Z h.fl,I Z h.gp,I Z h.ln,I Z h.rf,I Z h.sp,I Z h.pu,I Z h.br,I Z h.dr,I Z h.lv,I Z h.dO,I Z h.ld,I Z h.qu] 31)) w.heap.size h):=HAt.new w h _
 have HB:Hid (Below w.heap.size w (w.alloc (.cells #[I Z h.fl,I Z h.gp,I Z h.ln,I Z h.rf,I Z h.sp,I Z h.pu,I Z h.br,I Z h.dr,I Z h.lv,I Z h.dO,I Z h.ld,I Z h.qu] 31))):=(Below.refl _ _).alloc (Nat.le_refl _) _
 clear o
 go_enter Tryz.func193,Tryz.ntmps193
 go_wp2
 go_loopw [5,10] (fun b f wr=>∃ r n:Int,b=I Z r∧f=I Z n∧0≤n∧n≤h.fl + 1∧h.NearTo p n r∧HAt wr w.heap.size h∧Below w.heap.size w wr) (fun _ f _=>(h.fl + 1 - intOf f).toNat)
 case atStart=>exact ⟨-1,0,rfl,rfl,by omega,by omega,Hs.NearTo.start h p,HH.out,HB.out⟩
 case round=>
  obtain ⟨r,n,rfl,rfl,n1,n2,hnear,hat,hbel⟩:=hrel
  have r1:=hnear.lo
  have r2:=hnear.hi
  have HN:Hid (h.NearTo p n r):=hnear
  have HH:Hid (HAt wr w.heap.size h):=hat
  have HB:Hid (Below w.heap.size w wr):=hbel
  obtain ⟨q0,q1,q2,q3,q4,q5,q6,q7,q8,q9,q10,q11⟩:=hat
  clear hnear hbel
  by_cases hlt:n≤h.fl
  ·obtain ⟨v1,v2⟩:=HO.out.level_bd n (by omega) (by omega)
   obtain ⟨v3,v4⟩:=HO.out.level_bd r (by omega) (by omega)
   have e1:IntKind.i64.wrap (p - h.level n)=p - h.level n:=IntWalk.i64_in _ (by omega)
   have e2:IntKind.i64.wrap (p - h.level r)=p - h.level r:=IntWalk.i64_in _ (by omega)
   have HH:=zH (HH.out.drew)
   have HB:=zH (HB.out.drew)
   by_cases hd:sz (p - h.level n) < sz (p - h.level r)
   ·have hd':decide (sz (p - h.level n) < sz (p - h.level r))=true:=decide_eq_true hd
    have HD:Hid (h.dist p n < h.dist p r):=hd
    clear hd
    go_wp2_with fail
    go_region_held3 (fun w''=>w''.cell? ⟨w.heap.size,0,none⟩=some (I Z h.fl)∧w''.cell? ⟨w.heap.size,1,none⟩=some (I Z h.gp)∧w''.cell? ⟨w.heap.size,2,none⟩=some (I Z h.ln)∧w''.cell? ⟨w.heap.size,3,none⟩=some (I Z h.rf)∧w''.cell? ⟨w.heap.size,4,none⟩=some (I Z h.sp)∧w''.cell? ⟨w.heap.size,5,none⟩=some (I Z h.pu)∧w''.cell? ⟨w.heap.size,6,none⟩=some (I Z h.br)∧w''.cell? ⟨w.heap.size,7,none⟩=some (I Z h.dr)∧w''.cell? ⟨w.heap.size,8,none⟩=some (I Z h.lv)∧w''.cell? ⟨w.heap.size,9,none⟩=some (I Z h.dO)∧w''.cell? ⟨w.heap.size,10,none⟩=some (I Z h.ld)∧w''.cell? ⟨w.heap.size,11,none⟩=some (I Z h.qu)) (go_keep) (first | (go_at_call 167;refine (placeOf_any h HO.out _ (by omega) (by omega) _).mono ?_;rintro e w1 ⟨rfl,hb⟩;have HH:=zH (HH.out.below hb HH.out.lt);have HB:=zH (HB.out.trans (hb.mono HB.out.size));obtain ⟨q0,q1,q2,q3,q4,q5,q6,q7,q8,q9,q10,q11⟩:=HH.out;clear hb) | (go_at_call 207;refine (sizeOf_any _ (by omega) (by omega) _).mono ?_;rintro e w2 ⟨rfl,hw⟩;obtain rfl:=hw.symm))
    go_wp2
    go_roundw
    case rel=>exact ⟨n,n + 1,rfl,rfl,by omega,by omega,HN.out.take n1 HD.out,HH.out,HB.out⟩
    case measure=>simp [intOf];omega
   ·have hd':decide (sz (p - h.level n) < sz (p - h.level r))=false:=decide_eq_false hd
    have HD:Hid (¬ h.dist p n < h.dist p r):=hd
    clear hd
    go_wp2_with fail
    go_region_held3 (fun w''=>w''.cell? ⟨w.heap.size,0,none⟩=some (I Z h.fl)∧w''.cell? ⟨w.heap.size,1,none⟩=some (I Z h.gp)∧w''.cell? ⟨w.heap.size,2,none⟩=some (I Z h.ln)∧w''.cell? ⟨w.heap.size,3,none⟩=some (I Z h.rf)∧w''.cell? ⟨w.heap.size,4,none⟩=some (I Z h.sp)∧w''.cell? ⟨w.heap.size,5,none⟩=some (I Z h.pu)∧w''.cell? ⟨w.heap.size,6,none⟩=some (I Z h.br)∧w''.cell? ⟨w.heap.size,7,none⟩=some (I Z h.dr)∧w''.cell? ⟨w.heap.size,8,none⟩=some (I Z h.lv)∧w''.cell? ⟨w.heap.size,9,none⟩=some (I Z h.dO)∧w''.cell? ⟨w.heap.size,10,none⟩=some (I Z h.ld)∧w''.cell? ⟨w.heap.size,11,none⟩=some (I Z h.qu)) (go_keep) (first | (go_at_call 167;refine (placeOf_any h HO.out _ (by omega) (by omega) _).mono ?_;rintro e w1 ⟨rfl,hb⟩;have HH:=zH (HH.out.below hb HH.out.lt);have HB:=zH (HB.out.trans (hb.mono HB.out.size));obtain ⟨q0,q1,q2,q3,q4,q5,q6,q7,q8,q9,q10,q11⟩:=HH.out;clear hb) | (go_at_call 207;refine (sizeOf_any _ (by omega) (by omega) _).mono ?_;rintro e w2 ⟨rfl,hw⟩;obtain rfl:=hw.symm))
    go_wp2
    go_roundw
    case rel=>exact ⟨r,n + 1,rfl,rfl,by omega,by omega,HN.out.stay (by have:=HD.out;omega),HH.out,HB.out⟩
    case measure=>simp [intOf];omega
  ·obtain rfl:n=h.fl + 1:=by omega
   go_wp2
   go_ret
   exact ⟨r,HN.out,rfl,HB.out⟩
end Go.Proofs.YteimojoicfjdjaaGreat
namespace Go.Proofs.YteimojoicfjdjaaGreat
open Go.RowKit Pl
set_option linter.unusedSimpArgs false
set_option linter.unusedVariables false
theorem lev_mono{h:Hs}(o:h.Ok){f g:Int}(f1:-1≤f)(fg:f < g)(g2:g≤h.fl):h.level f < h.level g:=by
 have a1:=o.fl1;have a2:=o.gp1;have a3:=o.rf1
 unfold Hs.level
 rw [if_neg (show ¬ g < 0 by omega),if_neg (show ¬ h.fl≤f by omega)]
 by_cases c0:f < 0
 ·rw [if_pos c0]
  by_cases c1:h.fl≤g
  ·rw [if_pos c1]
   have:=Int.mul_nonneg (show 0≤h.fl - 1 by omega) (show 0≤h.gp by omega)
   omega
  ·rw [if_neg c1]
   have:=Int.mul_nonneg (show 0≤g by omega) (show 0≤h.gp by omega)
   omega
 ·rw [if_neg c0]
  by_cases c1:h.fl≤g
  ·rw [if_pos c1]
   have:=Int.mul_le_mul_of_nonneg_right (show f≤h.fl - 1 by omega) (show 0≤h.gp by omega)
   omega
  ·rw [if_neg c1]
   exact Int.mul_lt_mul_of_pos_right fg (by omega)
theorem near_clamp{h:Hs}(o:h.Ok){p r:Int}(a:h.NearTo p (h.fl + 1) r):h.NearTo (max (h.level (-1)) (min (h.level h.fl) p)) (h.fl + 1) r:=by
 have a1:=o.fl1
 have m:=lev_mono o (f:=-1) (g:=h.fl) (by omega) (by omega) (by omega)
 obtain ⟨r1,r2,r3,r4⟩:=a
 by_cases c1:p < h.level (-1)
 ·have e:max (h.level (-1)) (min (h.level h.fl) p)=h.level (-1):=by omega
  have er:r=-1:=by
   by_cases q:r=-1
   ·exact q
   ·have t:=r3 (-1) (by omega) (by omega)
    have mm:=lev_mono o (f:=-1) (g:=r) (by omega) (by omega) (by omega)
    unfold Hs.dist absI at t
    exfalso
    revert t
    (repeat' split) <;> omega
  subst er
  rw [e]
  refine ⟨by omega,by omega,fun f f1 f2=>by omega,fun f f1 f2=>?_⟩
  unfold Hs.dist absI
  (repeat' split) <;> omega
 ·by_cases c2:h.level h.fl < p
  ·have e:max (h.level (-1)) (min (h.level h.fl) p)=h.level h.fl:=by omega
   have er:r=h.fl:=by
    by_cases q:r=h.fl
    ·exact q
    ·have t:=r4 h.fl (by omega) (by omega)
     have mm:=lev_mono o (f:=r) (g:=h.fl) (by omega) (by omega) (by omega)
     unfold Hs.dist absI at t
     exfalso
     revert t
     (repeat' split) <;> omega
   subst er
   rw [e]
   refine ⟨by omega,by omega,fun f f1 f2=>?_,fun f f1 f2=>by omega⟩
   have mm:=lev_mono o (f:=f) (g:=h.fl) (by omega) (by omega) (by omega)
   unfold Hs.dist absI
   (repeat' split) <;> omega
  ·have e:max (h.level (-1)) (min (h.level h.fl) p)=p:=by omega
   rw [e]
   exact ⟨r1,r2,r3,r4⟩
end Go.Proofs.YteimojoicfjdjaaGreat
namespace Go.Proofs.YteimojoicfjdjaaGreat
set_option maxHeartbeats 4000000
open Value renaming int → I
open IntKind renaming i64 → Z
open Go.RowKit Pl
set_option linter.unusedSimpArgs false
set_option linter.unusedVariables false
theorem Hs.upP_cl(h:Hs)(v p:Int)(p1:0≤h.pu):cl (min h.sp (speedP p h.pu) - v) (-h.pu) h.pu=Hs.upP h v p:=by
 unfold Hs.upP Hs.want cl clip
 (repeat' split) <;> omega
theorem fieldR1(c v:Int)(w:World):(Instr.field 237 (.agg #[I Z c,I Z v]) 1).run Tryz.prog w=.ok (I Z v) w:=by kernel_rfl
theorem upward_any(h:Hs)(o:h.Ok)(v p:Int)(v1:-500≤v)(v2:v≤500)(q1:0≤p)(q2:p≤1000000000)(b:Nat)(w:World)(hH:HAt w b h) :
  Calls Tryz.prog 210 #[I Z v,I Z p,.pointer (some ⟨b,0,none⟩)] w fun e w'=>e=.returned (I Z (Hs.upP h v p))∧Below w.heap.size w w':=by
 have s1:=o.sp1;have s2:=o.sp2;have p1:=o.pu1;have p2:=o.pu2
 have sb:=speedP_bd p h.pu
 obtain ⟨m,hm⟩:∃ m,min h.sp (speedP p h.pu)=m:=⟨_,rfl⟩
 have m1:0≤m∧m≤500:=by omega
 have em:(if speedP p h.pu < h.sp then speedP p h.pu else h.sp)=m:=by split <;> omega
 have e1:IntKind.i64.wrap (m - v)=m - v:=IntWalk.i64_in _ (by omega)
 have e2:IntKind.i64.wrap (-h.pu)=-h.pu:=IntWalk.i64_in _ (by omega)
 have HE:Hid (cl (m - v) (-h.pu) h.pu=Hs.upP h v p):=by rw [← hm];exact Hs.upP_cl h v p (by omega)
 have fr:=fieldR1
 clear o hm
 have F0:=zH hH
 have FB:Hid (Below w.heap.size w w):=Below.refl _ _
 clear hH
 go_enter Tryz.func210,Tryz.ntmps210
 go_wp2_with fail
 have F0:=zH (F0.out.below (Below.refl _ _).drew F0.out.lt)
 have FB:=zH (FB.out.drew)
 obtain ⟨x0_0,x0_1,x0_2,x0_3,x0_4,x0_5,x0_6,x0_7,x0_8,x0_9,x0_10,x0_11⟩:=F0.out
 refine wp_region_held_drew (S:=(fun w''=>hS b h w'')) (by kernel_rfl) (by ((try dsimp only);(try simp only [hS]);first | ((repeat' apply And.intro) <;> assumption) | go_keep)) (fun hHeld=>?_)
 obtain ⟨v_1,hw1⟩:∃ v_1,v_1=w.drew:=⟨_,rfl⟩
 rw [← hw1] at F0 FB hHeld ⊢
 clear hw1
 obtain ⟨x0_0,x0_1,x0_2,x0_3,x0_4,x0_5,x0_6,x0_7,x0_8,x0_9,x0_10,x0_11⟩:=F0.out
 refine tkz 0 rfl ?_
 refine tkz 1 rfl ?_
 refine tkz 2 rfl ?_
 refine tkz 3 rfl ?_
 refine tkz 4 rfl ?_
 refine rd1 5 (fun K hK=>?_)
 go_simp
 refine (implSpeedFor_in _ _ (by omega) (by omega) (by omega) (by omega) _).mono ?_
 rintro e v_2 ⟨r,hbst,rfl,hg,hb⟩
 have F0:=zH (F0.out.below hb F0.out.lt)
 have FB:=tB FB hb
 clear hb
 obtain ⟨x0_0,x0_1,x0_2,x0_3,x0_4,x0_5,x0_6,x0_7,x0_8,x0_9,x0_10,x0_11⟩:=F0.out
 obtain rfl:=speedP_of hbst
 clear hbst hg
 try dsimp only
 refine kp hK (fun hHeld=>?_)
 clear hK K
 refine tkz 6 rfl ?_
 refine rd1 7 (fun K hK=>?_)
 go_simp
 refine kp hK (fun hHeld=>?_)
 clear hK K
 refine tkz 8 rfl ?_
 refine wpAnyH_done (by kernel_rfl) ?_ _
 go_wp2_with (go_at_call 164;refine (bounded_any _ _ _ _).mono ?_;rintro e w' ⟨rfl,hw⟩;obtain rfl:=hw.symm;clear hw)
 go_ret
 exact ⟨ret_int HE.out,FB.out⟩
def Hs.pushP(h:Hs)(v d:Int):Int:=if d < 0 then -(Hs.upP h (-v) (-d)) else Hs.upP h v d
theorem pushFor_any(h:Hs)(o:h.Ok)(v d:Int)(v1:-500≤v)(v2:v≤500)(q1:-1000000000≤d)(q2:d≤1000000000)(w:World) :
  Calls Tryz.prog 201 #[.agg #[I Z h.fl,I Z h.gp,I Z h.ln,I Z h.rf,I Z h.sp,I Z h.pu,I Z h.br,I Z h.dr,I Z h.lv,I Z h.dO,I Z h.ld,I Z h.qu],I Z v,I Z d] w fun e w'=>e=.returned (I Z (Hs.pushP h v d))∧Below w.heap.size w w':=by
 have p1:=o.pu1;have p2:=o.pu2;have p3:=o.sp2
 have HO:Hid h.Ok:=o
 unfold Hs.pushP
 have F0:Hid (HAt (w.alloc (.cells #[I Z h.fl,I Z h.gp,I Z h.ln,I Z h.rf,I Z h.sp,I Z h.pu,I Z h.br,I Z h.dr,I Z h.lv,I Z h.dO,I Z h.ld,I Z h.qu] 31)) w.heap.size h):=HAt.at_ w h _ _ (by simp)
 have FB:Hid (Below w.heap.size w (w.alloc (.cells #[I Z h.fl,I Z h.gp,I Z h.ln,I Z h.rf,I Z h.sp,I Z h.pu,I Z h.br,I Z h.dr,I Z h.lv,I Z h.dO,I Z h.ld,I Z h.qu] 31))):=((Below.refl _ _).alloc (Nat.le_refl _) _)
 by_cases k:d < 0
 ·rw [if_pos k]
  obtain ⟨u,hu⟩:∃ u,Hs.upP h (-v) (-d)=u:=⟨_,rfl⟩
  have ub:=Hs.upP_bd o (-v) (-d)
  rw [hu] at ub ⊢
  have e1:IntKind.i64.wrap (-u)=-u:=IntWalk.i64_in _ (by omega)
  have e2:IntKind.i64.wrap (-v)=-v:=IntWalk.i64_in _ (by omega)
  have e3:IntKind.i64.wrap (-d)=-d:=IntWalk.i64_in _ (by omega)
  clear o
  go_enter Tryz.func201,Tryz.ntmps201
  go_wp2_with (go_at_call 210;refine (upward_any h HO.out _ _ (by omega) (by omega) (by omega) (by omega) _ _ F0.out).mono ?_;rw [hu];rintro e w1 ⟨rfl,hb⟩;have F0:=zH (F0.out.below hb F0.out.lt);have FB:=tB FB hb;obtain ⟨x0_0,x0_1,x0_2,x0_3,x0_4,x0_5,x0_6,x0_7,x0_8,x0_9,x0_10,x0_11⟩:=F0.out;clear hb)
  go_ret
  exact ⟨rfl,FB.out⟩
 ·rw [if_neg k]
  clear o
  go_enter Tryz.func201,Tryz.ntmps201
  go_wp2_with (go_at_call 210;refine (upward_any h HO.out _ _ (by omega) (by omega) (by omega) (by omega) _ _ F0.out).mono ?_;rintro e w1 ⟨rfl,hb⟩;have F0:=zH (F0.out.below hb F0.out.lt);have FB:=tB FB hb;obtain ⟨x0_0,x0_1,x0_2,x0_3,x0_4,x0_5,x0_6,x0_7,x0_8,x0_9,x0_10,x0_11⟩:=F0.out;clear hb)
  go_ret
  exact ⟨rfl,FB.out⟩
theorem forC_brk{h:Hs}{c:Cs}{f:Int}(hn:Hs.near h c f=true)(hv:inB c.vel (-h.br) h.br=true):Hs.forC h c f=⟨0,true,false⟩:=by
 have a:absI (c.pos - h.level f)≤h.lv:=of_decide_eq_true hn
 have b:=inB_iff.1 hv
 unfold Hs.forC
 refine if_pos ⟨?_,?_⟩
 ·unfold absI at *;split at a <;> split <;> omega
 ·unfold absI;split <;> omega
theorem forC_go{h:Hs}{c:Cs}{f:Int}(hn:Hs.near h c f=false ∨ inB c.vel (-h.br) h.br=false):Hs.forC h c f=⟨Hs.pushP h c.vel (h.level f - c.pos),false,false⟩:=by
 have no:¬ (absI (h.level f - c.pos)≤h.lv∧absI c.vel≤h.br):=by
  rintro ⟨a,b⟩
  rcases hn with e | e
  ·have:¬ absI (c.pos - h.level f)≤h.lv:=of_decide_eq_false e
   apply this;unfold absI at *;split at a <;> split <;> omega
  ·have:inB c.vel (-h.br) h.br=true:=inB_yes (by unfold absI at b;split at b <;> omega) (by unfold absI at b;split at b <;> omega)
   rw [e] at this;exact Bool.noConfusion this
 unfold Hs.forC Hs.pushP
 rw [if_neg no]
 split <;> rfl
end Go.Proofs.YteimojoicfjdjaaGreat
namespace Go.Proofs.YteimojoicfjdjaaGreat
open Value renaming int → I
open IntKind renaming i64 → Z
open Go.RowKit Pl Sx
set_option linter.unusedVariables false
set_option linter.unusedSimpArgs false
def isShaft(w:World)(k:Int)(s:Sh)(e:Ending)(w':World):Prop:=
 e=.returned (.agg #[I Z k,I Z s.lo.pos,I Z s.lo.vel,I Z s.lo.door,I Z s.up.pos,I Z s.up.vel,I Z s.up.door])∧Below w.heap.size w w'
theorem implStepShaft_any(h:Hs)(s:Sh)(a b:Cm)(d e:Int)(w:World) :
  Calls Tryz.prog 91 #[.agg #[I Z h.fl,I Z h.gp,I Z h.ln,I Z h.rf,I Z h.sp,I Z h.pu,I Z h.br,I Z h.dr,I Z h.lv,I Z h.dO,I Z h.ld,I Z h.qu],.agg #[I Z s.lo.pos,I Z s.lo.vel,I Z s.lo.door,I Z s.up.pos,I Z s.up.vel,I Z s.up.door],.agg #[I Z a.push,.bool a.brk,.bool a.opn],.agg #[I Z b.push,.bool b.brk,.bool b.opn],I Z d,I Z e] w (isShaft w (Hs.stepK h s a b d e) (Hs.stepV h s a b d e)):=by
 refine calls_ok mo (L:=[iPair,iIn,iGrd,iBehind]) Tryz.func91 (args:=[hv h,sv s,xv a,xv b,I Z d,I Z e]) (T:=cond ((Hs.pairK h s a b) != 0) ((.agg #[I Z (Hs.pairK h s a b),I Z 0,I Z 0,I Z 0,I Z 0,I Z 0,I Z 0]:Value)=.agg #[I Z (Hs.stepK h s a b d e),I Z (((Hs.stepV h s a b d e).lo).pos),I Z (((Hs.stepV h s a b d e).lo).vel),I Z (((Hs.stepV h s a b d e).lo).door),I Z (((Hs.stepV h s a b d e).up).pos),I Z (((Hs.stepV h s a b d e).up).vel),I Z (((Hs.stepV h s a b d e).up).door)]) (cond (!(!(inB d (IntKind.i64.wrap (0 - h.dr)) h.dr))) (cond (!(inB e (IntKind.i64.wrap (0 - h.dr)) h.dr)) ((.agg #[I Z 3,I Z 0,I Z 0,I Z 0,I Z 0,I Z 0,I Z 0]:Value)=.agg #[I Z (Hs.stepK h s a b d e),I Z (((Hs.stepV h s a b d e).lo).pos),I Z (((Hs.stepV h s a b d e).lo).vel),I Z (((Hs.stepV h s a b d e).lo).door),I Z (((Hs.stepV h s a b d e).up).pos),I Z (((Hs.stepV h s a b d e).up).vel),I Z (((Hs.stepV h s a b d e).up).door)]) ((h.shaft s=0∧(-h.pu≤(⟨a,b⟩:Pr).a.push∧(⟨a,b⟩:Pr).a.push≤h.pu)∧-h.pu≤(⟨a,b⟩:Pr).b.push∧(⟨a,b⟩:Pr).b.push≤h.pu)∧(CarOk h s.lo∧(-h.pu≤((⟨(Hs.grd h s (⟨a,b⟩:Pr).a (⟨a,b⟩:Pr).b).1,(Hs.grd h s (⟨a,b⟩:Pr).a (⟨a,b⟩:Pr).b).2⟩:Pr).a).push∧((⟨(Hs.grd h s (⟨a,b⟩:Pr).a (⟨a,b⟩:Pr).b).1,(Hs.grd h s (⟨a,b⟩:Pr).a (⟨a,b⟩:Pr).b).2⟩:Pr).a).push≤h.pu)∧-h.dr≤d∧d≤h.dr)∧(CarOk h s.up∧(-h.pu≤((⟨(Hs.grd h s (⟨a,b⟩:Pr).a (⟨a,b⟩:Pr).b).1,(Hs.grd h s (⟨a,b⟩:Pr).a (⟨a,b⟩:Pr).b).2⟩:Pr).b).push∧((⟨(Hs.grd h s (⟨a,b⟩:Pr).a (⟨a,b⟩:Pr).b).1,(Hs.grd h s (⟨a,b⟩:Pr).a (⟨a,b⟩:Pr).b).2⟩:Pr).b).push≤h.pu)∧-h.dr≤e∧e≤h.dr)∧(.agg #[I Z 0,I Z ((stepC h s.lo ((⟨(Hs.grd h s (⟨a,b⟩:Pr).a (⟨a,b⟩:Pr).b).1,(Hs.grd h s (⟨a,b⟩:Pr).a (⟨a,b⟩:Pr).b).2⟩:Pr).a) d).pos),I Z ((stepC h s.lo ((⟨(Hs.grd h s (⟨a,b⟩:Pr).a (⟨a,b⟩:Pr).b).1,(Hs.grd h s (⟨a,b⟩:Pr).a (⟨a,b⟩:Pr).b).2⟩:Pr).a) d).vel),I Z ((stepC h s.lo ((⟨(Hs.grd h s (⟨a,b⟩:Pr).a (⟨a,b⟩:Pr).b).1,(Hs.grd h s (⟨a,b⟩:Pr).a (⟨a,b⟩:Pr).b).2⟩:Pr).a) d).door),I Z ((stepC h s.up ((⟨(Hs.grd h s (⟨a,b⟩:Pr).a (⟨a,b⟩:Pr).b).1,(Hs.grd h s (⟨a,b⟩:Pr).a (⟨a,b⟩:Pr).b).2⟩:Pr).b) e).pos),I Z ((stepC h s.up ((⟨(Hs.grd h s (⟨a,b⟩:Pr).a (⟨a,b⟩:Pr).b).1,(Hs.grd h s (⟨a,b⟩:Pr).a (⟨a,b⟩:Pr).b).2⟩:Pr).b) e).vel),I Z ((stepC h s.up ((⟨(Hs.grd h s (⟨a,b⟩:Pr).a (⟨a,b⟩:Pr).b).1,(Hs.grd h s (⟨a,b⟩:Pr).a (⟨a,b⟩:Pr).b).2⟩:Pr).b) e).door)]:Value)=.agg #[I Z (Hs.stepK h s a b d e),I Z (((Hs.stepV h s a b d e).lo).pos),I Z (((Hs.stepV h s a b d e).lo).vel),I Z (((Hs.stepV h s a b d e).lo).door),I Z (((Hs.stepV h s a b d e).up).pos),I Z (((Hs.stepV h s a b d e).up).vel),I Z (((Hs.stepV h s a b d e).up).door)])) ((.agg #[I Z 3,I Z 0,I Z 0,I Z 0,I Z 0,I Z 0,I Z 0]:Value)=.agg #[I Z (Hs.stepK h s a b d e),I Z (((Hs.stepV h s a b d e).lo).pos),I Z (((Hs.stepV h s a b d e).lo).vel),I Z (((Hs.stepV h s a b d e).lo).door),I Z (((Hs.stepV h s a b d e).up).pos),I Z (((Hs.stepV h s a b d e).up).vel),I Z (((Hs.stepV h s a b d e).up).door)]))) (by kernel_rfl) ?_ w
 unfold Hs.stepK Hs.stepV
 refine if_b (fun q=>?_) (fun q=>?_)
 ·have n:¬ Hs.pairK h s a b=0:=by simpa using q
  simp [n,Hs.stepK]
 have n:Hs.pairK h s a b=0:=by simpa using q
 obtain ⟨kl,ku,a1,b1⟩:=pair_ok n
 have A:=kl.ok.all
 have hs:=(pair_zero n).1
 have B:=grd_push kl.ok s a1.1 a1.2 b1.1 b1.2
 rw [w64 (by omega) (by omega),Int.zero_sub]
 refine if_b (fun i1=>?_) (fun i1=>?_)
 ·refine if_b (fun i2=>?_) (fun i2=>?_)
  ·simp at i1 i2;simp [n,i1,i2,Hs.stepK]
  ·simp at i1 i2
   have ⟨i3,i4⟩:=inB_iff.1 i1;have ⟨i5,i6⟩:=inB_iff.1 i2
   refine ⟨⟨hs,a1,b1⟩,⟨kl,B.1,i3,i4⟩,⟨ku,B.2,i5,i6⟩,?_⟩
   simp [n,i1,i2,Hs.stepK,Hs.stepS]
 ·simp at i1;simp [n,i1,Hs.stepK]
theorem oneFloor_any(f:Int)(w:World) :
  Calls Tryz.prog 173 #[I Z f] w fun e w'=>e=.returned (.agg #[I Z f,I Z f])∧Below w.heap.size w w':=by
 refine calls_ok mo (L:=[]) Tryz.func173 (args:=[I Z f]) (T:=mv (⟨f,f⟩:Sp)=mv (⟨f,f⟩:Sp)) (by kernel_rfl) ?_ w
 exact rfl
def iOne:Ent Tryz.prog:=e1 kI 173 (fun f_=>none) (fun f_=>.agg #[I Z ((⟨f_,f_⟩:Sp).lo),I Z ((⟨f_,f_⟩:Sp).hi)]) fun f_ p w=>oneFloor_any f_ w
def growS(x:Sp)(f:Int):Sp:=⟨min x.lo f,max x.hi f⟩
theorem grown_any(x:Sp)(f:Int)(g:Sp)(hg:growS x f=g)(w:World) :
  Calls Tryz.prog 179 #[.agg #[I Z x.lo,I Z x.hi],I Z f] w fun e w'=>e=.returned (.agg #[I Z g.lo,I Z g.hi])∧Below w.heap.size w w':=by
 subst hg
 refine calls_ok mo (L:=[]) Tryz.func179 (args:=[mv x,I Z f]) (T:=mv (⟨(if f < x.lo then f else x.lo),(if f > x.hi then f else x.hi)⟩:Sp)=mv (growS x f)) (by kernel_rfl) ?_ w
 refine congrArg mv ?_
 unfold growS
 congr 1 <;> split <;> omega
def iGrow:Ent Tryz.prog:=e2 kM kI 179 (fun x_ f_=>none) (fun x_ f_=>.agg #[I Z ((growS x_ f_).lo),I Z ((growS x_ f_).hi)]) fun x_ f_ p w=>grown_any x_ f_ _ rfl w
theorem extended_any(x:Ss)(a b:Int)(a3:-1000≤x.u.lo)(a4:x.u.lo≤1000)(g1 g2:Sp)(h1:growS x.l (min a (x.u.lo - 1))=g1)(a5:-2000≤g1.hi)(a6:g1.hi≤2000)(h2:growS x.u (max b (g1.hi + 1))=g2)(w:World) :
  Calls Tryz.prog 142 #[.agg #[I Z x.l.lo,I Z x.l.hi,I Z x.u.lo,I Z x.u.hi],I Z a,I Z b] w fun e w'=>e=.returned (.agg #[I Z g1.lo,I Z g1.hi,I Z g2.lo,I Z g2.hi])∧Below w.heap.size w w':=by
 subst h2
 subst h1
 refine calls_ok mo (L:=[iGrow]) Tryz.func142 (args:=[nv x,I Z a,I Z b]) (T:=nv (⟨(growS x.l (if (IntKind.i64.wrap (x.u.lo - 1)) < a then (IntKind.i64.wrap (x.u.lo - 1)) else a)),(growS x.u (if (IntKind.i64.wrap (((growS x.l (if (IntKind.i64.wrap (x.u.lo - 1)) < a then (IntKind.i64.wrap (x.u.lo - 1)) else a)).hi) + 1)) > b then (IntKind.i64.wrap (((growS x.l (if (IntKind.i64.wrap (x.u.lo - 1)) < a then (IntKind.i64.wrap (x.u.lo - 1)) else a)).hi) + 1)) else b))⟩:Ss)=nv (⟨growS x.l (min a (x.u.lo - 1)),growS x.u (max b ((growS x.l (min a (x.u.lo - 1))).hi + 1))⟩:Ss)) (by kernel_rfl) ?_ w
 have e1:IntKind.i64.wrap (x.u.lo - 1)=x.u.lo - 1:=w64 (by omega) (by omega)
 have e2:(if x.u.lo - 1 < a then x.u.lo - 1 else a)=min a (x.u.lo - 1):=by split <;> omega
 rw [e1,e2,w64 (x:=(growS x.l (min a (x.u.lo - 1))).hi + 1) (by omega) (by omega)]
 refine congrArg nv (congrArg (Ss.mk _) (congrArg (growS _) ?_))
 split <;> omega
theorem implAimOf_any(x:Sp)(g:Int)(hx:x.lo≤x.hi)(w:World) :
  Calls Tryz.prog 147 #[.agg #[I Z x.lo,I Z x.hi],I Z g] w fun e w'=>e=.returned (I Z (aimS x g))∧Below w.heap.size w w':=by
 refine calls_ok mo (L:=[]) Tryz.func147 (args:=[mv x,I Z g]) (T:=cond (decide (g < x.lo)) (IsI x.lo (aimS x g)) (cond (decide (g > x.hi)) (IsI x.hi (aimS x g)) (IsI g (aimS x g)))) (by kernel_rfl) ?_ w
 unfold aimS
 refine if_b (fun e=>iI ?_) (fun e=>if_b (fun g=>iI ?_) (fun g=>iI ?_)) <;> (simp at *;omega)
theorem implNear_b(h:Hs)(o:h.Ok)(p:Int)(p1:-4611686018427387904≤p)(p2:p≤4611686018427387904)(w:World) :
  Calls Tryz.prog 193 #[.agg #[I Z h.fl,I Z h.gp,I Z h.ln,I Z h.rf,I Z h.sp,I Z h.pu,I Z h.br,I Z h.dr,I Z h.lv,I Z h.dO,I Z h.ld,I Z h.qu],I Z p] w fun e w'=>e=.returned (I Z (Hs.nearF h p (h.fl + 1).toNat))∧Below w.heap.size w w':=by
 refine (nearestFloor_any h o p p1 p2 w).mono ?_
 rintro e w' ⟨r,hr,he,hb⟩
 have f1:=o.fl1
 have e:(((h.fl + 1).toNat:Nat):Int)=h.fl + 1:=by omega
 have b:=Hs.nearF_near h p (h.fl + 1).toNat
 rw [e] at b
 rw [b.one hr];exact ⟨he,hb⟩
def iNear:Ent Tryz.prog:=e2 kH kI 193 (fun h_ p_=>some (h_.Ok∧-4611686018427387904≤p_∧p_≤4611686018427387904)) (fun h_ p_=>I Z (Hs.nearF h_ p_ (h_.fl + 1).toNat)) fun h_ p_ p w=>have ⟨h1,h2,h3⟩:=p _ rfl;implNear_b h_ h1 p_ h2 h3 w
theorem floorOf_any(h:Hs)(c:Cs)(k:CarOk h c)(v:Int)(hv:Hs.at6 h c.pos=v)(w:World) :
  Calls Tryz.prog 172 #[.agg #[I Z h.fl,I Z h.gp,I Z h.ln,I Z h.rf,I Z h.sp,I Z h.pu,I Z h.br,I Z h.dr,I Z h.lv,I Z h.dO,I Z h.ld,I Z h.qu],.agg #[I Z c.pos,I Z c.vel,I Z c.door]] w fun e w'=>e=.returned (I Z v)∧Below w.heap.size w w':=by
 subst hv
 refine calls_ok mo (L:=[iNear]) Tryz.func172 (args:=[hv h,cv c]) (T:=(h.Ok∧-4611686018427387904≤c.pos∧c.pos≤4611686018427387904)∧IsI (Hs.nearF h c.pos (h.fl + 1).toNat) (Hs.at6 h c.pos)) (by kernel_rfl) ?_ w
 have o:=k.ok;have A:=o.all;have K:=k.all
 have e:(((h.fl + 1).toNat:Nat):Int)=h.fl + 1:=by omega
 have b:=Hs.nearF_near h c.pos (h.fl + 1).toNat
 rw [e] at b
 exact ⟨⟨o,by omega,by omega⟩,iI (Hs.at6_of o (near_clamp o b)).symm⟩
def iFlo:Ent Tryz.prog:=e2 kH kC 172 (fun h_ c_=>some (CarOk h_ c_)) (fun h_ c_=>I Z (Hs.at6 h_ c_.pos)) fun h_ c_ p w=>floorOf_any h_ c_ (p _ rfl) _ rfl w
theorem stopOf_any(h:Hs)(o:h.Ok)(c:Cs)(kc:CarOk h c)(w:World) :
  Calls Tryz.prog 149 #[.agg #[I Z h.fl,I Z h.gp,I Z h.ln,I Z h.rf,I Z h.sp,I Z h.pu,I Z h.br,I Z h.dr,I Z h.lv,I Z h.dO,I Z h.ld,I Z h.qu],.agg #[I Z c.pos,I Z c.vel,I Z c.door]] w fun e w'=>e=.returned (I Z (floor8 h c))∧Below w.heap.size w w':=by
 refine calls_ok mo (L:=[iFlo,iCl]) Tryz.func149 (args:=[hv h,cv c]) (T:=(CarOk h c)∧IsI (cl (Hs.at6 h c.pos) (0:Int) (IntKind.i64.wrap (h.fl - 1))) (floor8 h c)) (by kernel_rfl) ?_ w
 have A:=o.all
 refine ⟨kc,iI ?_⟩
 rw [w64 (by omega) (by omega)]
 unfold cl floor8;omega
theorem sensedSpans_any(h:Hs)(s:Sh)(ka:CarOk h s.lo)(kb:CarOk h s.up)(w:World) :
  Calls Tryz.prog 136 #[.agg #[I Z h.fl,I Z h.gp,I Z h.ln,I Z h.rf,I Z h.sp,I Z h.pu,I Z h.br,I Z h.dr,I Z h.lv,I Z h.dO,I Z h.ld,I Z h.qu],.agg #[I Z s.lo.pos,I Z s.lo.vel,I Z s.lo.door,I Z s.up.pos,I Z s.up.vel,I Z s.up.door]] w fun e w'=>e=.returned (.agg #[I Z (Hs.sensA h s),I Z (Hs.sensA h s),I Z (Hs.sensB h s),I Z (Hs.sensB h s)])∧Below w.heap.size w w':=by
 refine calls_ok mo (L:=[iFlo,iOne]) Tryz.func136 (args:=[hv h,sv s]) (T:=(CarOk h s.lo)∧(CarOk h s.up)∧cond (decide ((Hs.at6 h s.up.pos)≤(Hs.at6 h s.lo.pos))) (nv (⟨(⟨(if (IntKind.i64.wrap (h.fl - 1)) < (Hs.at6 h s.lo.pos) then (IntKind.i64.wrap (h.fl - 1)) else (Hs.at6 h s.lo.pos)),(if (IntKind.i64.wrap (h.fl - 1)) < (Hs.at6 h s.lo.pos) then (IntKind.i64.wrap (h.fl - 1)) else (Hs.at6 h s.lo.pos))⟩:Sp),(⟨(IntKind.i64.wrap ((if (IntKind.i64.wrap (h.fl - 1)) < (Hs.at6 h s.lo.pos) then (IntKind.i64.wrap (h.fl - 1)) else (Hs.at6 h s.lo.pos)) + 1)),(IntKind.i64.wrap ((if (IntKind.i64.wrap (h.fl - 1)) < (Hs.at6 h s.lo.pos) then (IntKind.i64.wrap (h.fl - 1)) else (Hs.at6 h s.lo.pos)) + 1))⟩:Sp)⟩:Ss)=nv (Hs.sensed h s)) (nv (⟨(⟨(Hs.at6 h s.lo.pos),(Hs.at6 h s.lo.pos)⟩:Sp),(⟨(Hs.at6 h s.up.pos),(Hs.at6 h s.up.pos)⟩:Sp)⟩:Ss)=nv (Hs.sensed h s))) (by kernel_rfl) ?_ w
 have o:=ka.ok;have A:=o.all;have:=Hs.at6_bd o s.lo.pos;have:=Hs.at6_bd o s.up.pos
 have e1:IntKind.i64.wrap (h.fl - 1)=h.fl - 1:=w64 (by omega) (by omega)
 have e2:(if h.fl - 1 < Hs.at6 h s.lo.pos then h.fl - 1 else Hs.at6 h s.lo.pos)=min (Hs.at6 h s.lo.pos) (h.fl - 1):=by split <;> omega
 rw [e1,e2,w64 (x:=min (Hs.at6 h s.lo.pos) (h.fl - 1) + 1) (by omega) (by omega)]
 have e3:∀ x y z u:Int,x=z→y=u→nv (⟨⟨x,x⟩,⟨y,y⟩⟩:Ss)=nv (⟨⟨z,z⟩,⟨u,u⟩⟩:Ss):=fun x y z u h1 h2=>by rw [h1,h2]
 refine ⟨ka,kb,if_b (fun q=>e3 _ _ _ _ ?_ ?_) (fun q=>e3 _ _ _ _ ?_ ?_)⟩
 all_goals
  simp at q
  simp only [Hs.sensA,Hs.sensB]
  (repeat' split) <;> omega
def iPush:Ent Tryz.prog:=e3 kH kI kI 201 (fun h_ v_ d_=>some (h_.Ok∧(-500≤v_∧v_≤500)∧-1000000000≤d_∧d_≤1000000000)) (fun h_ v_ d_=>I Z (Hs.pushP h_ v_ d_)) fun h_ v_ d_ p w=>have ⟨h1,h2,h3⟩:=p _ rfl;pushFor_any h_ h1 v_ d_ h2.1 h2.2 h3.1 h3.2 w
theorem commandTo_any(h:Hs)(o:h.Ok)(c:Cs)(f:Int)(f1:-1≤f)(f2:f≤h.fl)(p1:-100000000≤c.pos)(p2:c.pos≤100000000)(v1:-500≤c.vel)(v2:c.vel≤500)(w:World) :
  Calls Tryz.prog 185 #[.agg #[I Z h.fl,I Z h.gp,I Z h.ln,I Z h.rf,I Z h.sp,I Z h.pu,I Z h.br,I Z h.dr,I Z h.lv,I Z h.dO,I Z h.ld,I Z h.qu],.agg #[I Z c.pos,I Z c.vel,I Z c.door],I Z f] w (isCmd w (Hs.forC h c f)):=by
 refine calls_ok mo (L:=[iLevel,iIn,iWay,iPush]) Tryz.func185 (args:=[hv h,cv c,I Z f]) (T:=(h.Ok∧(-1≤f∧f≤h.fl)∧-100000000≤c.pos∧c.pos≤100000000)∧cond (Hs.near h c f) (cond (inB c.vel (IntKind.i64.wrap (0 - h.br)) h.br) (xv (⟨0,true,false⟩:Cm)=xv (Hs.forC h c f)) ((h.Ok∧(-1≤f∧f≤h.fl)∧-100000000≤c.pos∧c.pos≤100000000)∧(h.Ok∧(-500≤c.vel∧c.vel≤500)∧-1000000000≤(h.level f - c.pos)∧(h.level f - c.pos)≤1000000000)∧xv (⟨(Hs.pushP h c.vel (h.level f - c.pos)),false,false⟩:Cm)=xv (Hs.forC h c f))) ((h.Ok∧(-1≤f∧f≤h.fl)∧-100000000≤c.pos∧c.pos≤100000000)∧(h.Ok∧(-500≤c.vel∧c.vel≤500)∧-1000000000≤(h.level f - c.pos)∧(h.level f - c.pos)≤1000000000)∧xv (⟨(Hs.pushP h c.vel (h.level f - c.pos)),false,false⟩:Cm)=xv (Hs.forC h c f))) (by kernel_rfl) ?_ w
 have A:=o.all;have B:=o.level_bd f f1 (by omega)
 rw [w64 (by omega) (by omega),Int.zero_sub]
 repeat' first | exact o | exact ka | exact kb | refine if_b (fun _=>?_) (fun _=>?_) | refine iI ?_ | refine iB ?_ | refine congrArg nv ?_ | refine congrArg xv ?_ | apply And.intro
 all_goals first | omega | (rw [forC_brk (by assumption) (by assumption)]) | (rw [forC_go (.inl (by assumption))]) | (rw [forC_go (.inr (by assumption))])
def iTo:Ent Tryz.prog:=e3 kH kC kI 185 (fun h_ c_ f_=>some (h_.Ok∧(-1≤f_∧f_≤h_.fl)∧(-100000000≤c_.pos∧c_.pos≤100000000)∧-500≤c_.vel∧c_.vel≤500)) (fun h_ c_ f_=>.agg #[I Z ((Hs.forC h_ c_ f_).push),.bool ((Hs.forC h_ c_ f_).brk),.bool ((Hs.forC h_ c_ f_).opn)]) fun h_ c_ f_ p w=>have ⟨h1,h2,h3,h4⟩:=p _ rfl;commandTo_any h_ h1 c_ f_ h2.1 h2.2 h3.1 h3.2 h4.1 h4.2 w
theorem implCommandFor_any(h:Hs)(c:Cs)(f:Int)(w:World) :
  Calls Tryz.prog 146 #[.agg #[I Z h.fl,I Z h.gp,I Z h.ln,I Z h.rf,I Z h.sp,I Z h.pu,I Z h.br,I Z h.dr,I Z h.lv,I Z h.dO,I Z h.ld,I Z h.qu],.agg #[I Z c.pos,I Z c.vel,I Z c.door],I Z f] w (isCmd w (Hs.cmdFor h c f)):=by
 refine calls_ok mo (L:=[iCar,iHas,iTo]) Tryz.func146 (args:=[hv h,cv c,I Z f]) (T:=cond (!((h.car c) != 0)) (cond (!(!(inB f (-1) h.fl))) (cond (c.door != 0) (xv (⟨0,false,false⟩:Cm)=xv (Hs.cmdFor h c f)) ((h.Ok∧(-1≤f∧f≤h.fl)∧(-100000000≤c.pos∧c.pos≤100000000)∧-500≤c.vel∧c.vel≤500)∧xv (Hs.forC h c f)=xv (Hs.cmdFor h c f))) (xv (⟨0,false,false⟩:Cm)=xv (Hs.cmdFor h c f))) (xv (⟨0,false,false⟩:Cm)=xv (Hs.cmdFor h c f))) (by kernel_rfl) ?_ w
 unfold Hs.cmdFor
 refine if_b (fun e=>?_) (fun e=>?_)
 ·have n:h.car c=0:=by simpa using e
  have k:=Hs.car_zero n;have K:=k.all;have A:=k.ok.all
  refine if_b (fun i=>if_b (fun d=>?_) (fun d=>?_)) (fun i=>?_)
  ·refine congrArg xv ?_;simp_all
  ·have i':inB f (-1) h.fl=true:=by simpa using i
   have ⟨i1,i2⟩:=inB_iff.1 i'
   refine ⟨⟨k.ok,by omega,by omega,by omega⟩,congrArg xv ?_⟩
   simp_all
  ·refine congrArg xv ?_;simp_all
 ·refine congrArg xv ?_;simp_all
end Go.Proofs.YteimojoicfjdjaaGreat
namespace Go.Proofs.YteimojoicfjdjaaGreat
set_option maxRecDepth 20000
set_option maxHeartbeats 8000000
open Value renaming int → I
open IntKind renaming i64 → Z
open Go.RowKit Pl Sx
set_option linter.unusedVariables false
set_option linter.unusedSimpArgs false
def asideR(goal side x y:Int):Int:=if (x ≠ -2∧0 < (x - goal) * side) then x else if (y ≠ -2∧0 < (y - goal) * side) then y else goal + side
theorem aside_any(goal side x y:Int)(hs:side=1 ∨ side=-1)(g1:-1000≤goal)(g2:goal≤1000)(x1:-1000≤x)(x2:x≤1000)(y1:-1000≤y)(y2:y≤1000)(b:Nat)(w:World)(c0:w.cell? ⟨b,0,none⟩=some (I Z x))(c1:w.cell? ⟨b,1,none⟩=some (I Z y)) :
  Calls Tryz.prog 178 #[I Z goal,I Z side,.slice (some ⟨b,0,none⟩) 2 2] w fun e w'=>e=.returned (I Z (asideR goal side x y))∧w'=w:=by
 have e1:IntKind.i64.wrap (x - goal)=x - goal:=IntWalk.i64_in _ (by omega)
 have e2:IntKind.i64.wrap ((x - goal) * side)=(x - goal) * side:=IntWalk.i64_in _ (by rcases hs with rfl | rfl <;> omega)
 have e3:IntKind.i64.wrap (y - goal)=y - goal:=IntWalk.i64_in _ (by omega)
 have e4:IntKind.i64.wrap ((y - goal) * side)=(y - goal) * side:=IntWalk.i64_in _ (by rcases hs with rfl | rfl <;> omega)
 have e5:IntKind.i64.wrap (goal + side)=goal + side:=IntWalk.i64_in _ (by omega)
 obtain ⟨r,hr⟩:∃ r,asideR goal side x y=r:=⟨_,rfl⟩
 rw [hr]
 have HR:=zH hr
 clear hr hs g1 g2 x1 x2 y1 y2
 go_enter Tryz.func178,Tryz.ntmps178
 go_wp2
 go_loop [11] (fun i=>i=I Z 0 ∨ (i=I Z 1∧¬ (x ≠ -2∧0 < (x - goal) * side)) ∨ (i=I Z 2∧¬ (x ≠ -2∧0 < (x - goal) * side)∧¬ (y ≠ -2∧0 < (y - goal) * side))) (fun i=>(2 - intOf i).toNat)
 case atStart=>exact Or.inl rfl
 case round=>
  rcases hrel with h | ⟨h,nx⟩ | ⟨h,nx,ny⟩
  ·subst h
   by_cases hx:x=-2
   ·have b0:(x != -2)=false:=by simpa using hx
    go_wp2
    go_round
    case rel=>exact Or.inr (Or.inl ⟨rfl,fun q=>q.1 hx⟩)
    case measure=>simp [intOf]
   ·have b0:(x != -2)=true:=by simpa using hx
    by_cases hp:0 < (x - goal) * side
    ·have b1:decide (0 < (x - goal) * side)=true:=decide_eq_true hp
     have HE:Hid (x=r):=by rw [← HR.out];unfold asideR;rw [if_pos ⟨hx,hp⟩];exact rfl
     clear hx hp
     go_wp2
     go_ret
     exact ⟨ret_int HE.out,rfl⟩
    ·have b1:decide (0 < (x - goal) * side)=false:=decide_eq_false hp
     clear hx
     go_wp2
     go_round
     case rel=>exact Or.inr (Or.inl ⟨rfl,fun q=>hp q.2⟩)
     case measure=>simp [intOf]
  ·have NX:=zH nx
   clear nx
   subst h
   by_cases hx:y=-2
   ·have b0:(y != -2)=false:=by simpa using hx
    go_wp2
    go_round
    case rel=>exact Or.inr (Or.inr ⟨rfl,NX.out,fun q=>q.1 hx⟩)
    case measure=>simp [intOf]
   ·have b0:(y != -2)=true:=by simpa using hx
    by_cases hp:0 < (y - goal) * side
    ·have b1:decide (0 < (y - goal) * side)=true:=decide_eq_true hp
     have HE:Hid (y=r):=by rw [← HR.out];unfold asideR;rw [if_neg NX.out,if_pos ⟨hx,hp⟩];exact rfl
     clear hx hp
     go_wp2
     go_ret
     exact ⟨ret_int HE.out,rfl⟩
    ·have b1:decide (0 < (y - goal) * side)=false:=decide_eq_false hp
     clear hx
     go_wp2
     go_round
     case rel=>exact Or.inr (Or.inr ⟨rfl,NX.out,fun q=>hp q.2⟩)
     case measure=>simp [intOf]
  ·subst h
   have HE:Hid (goal + side=r):=by rw [← HR.out];unfold asideR;rw [if_neg nx,if_neg ny];exact rfl
   clear nx ny
   go_wp2
   go_ret
   exact ⟨ret_int HE.out,rfl⟩
def sideB(s:Int):Prop:=s=1 ∨ s=-1
def iAside:Ent Tryz.prog where
 f:=178
 sp:=fun _=>none
 ok:=fun _ _ _ h=>by cases h
 sr:=fun us cs=>match us,cs with
  | [I Z g,I Z s],[I Z x,I Z y]=>some (some (sideB s∧(-1000≤g∧g≤1000)∧(-1000≤x∧x≤1000)∧-1000≤y∧y≤1000),I Z (asideR g s x y))
  | _,_=>none
 okr:=fun us cs p v h hp b T w hw=>by
  split at h
  ·rename_i g s x y
   simp only [Option.some.injEq,Prod.mk.injEq] at h
   obtain ⟨rfl,rfl⟩:=h
   have c:=fun i=>cell_of_row w b i _ T (0,0) hw
   obtain ⟨h1,h2,h3,h4⟩:=hp _ rfl
   exact bw (aside_any g s x y h1 h2.1 h2.2 h3.1 h3.2 h4.1 h4.2 b w ((c 0).trans rfl) ((c 1).trans rfl))
  ·cases h
theorem implGoalsFor_any(h:Hs)(s:Sh)(lead goal other:Int)(w:World) :
  Calls Tryz.prog 141 #[.agg #[I Z h.fl,I Z h.gp,I Z h.ln,I Z h.rf,I Z h.sp,I Z h.pu,I Z h.br,I Z h.dr,I Z h.lv,I Z h.dO,I Z h.ld,I Z h.qu],.agg #[I Z s.lo.pos,I Z s.lo.vel,I Z s.lo.door,I Z s.up.pos,I Z s.up.vel,I Z s.up.door],I Z lead,I Z goal,I Z other] w (isGoal w (Hs.goalK h s lead goal other) (Hs.goalV h s lead goal other).1 (Hs.goalV h s lead goal other).2):=by
 refine calls_ok mo (L:=[iShaft,iIn,iFloor,iFlo,iAside]) Tryz.func141 (args:=[hv h,sv s,I Z lead,I Z goal,I Z other]) (T:=cond ((h.shaft s) != 0) ((.agg #[I Z (h.shaft s),I Z 0,I Z 0]:Value)=.agg #[I Z (Hs.goalK h s lead goal other),I Z ((Hs.goalV h s lead goal other).1),I Z ((Hs.goalV h s lead goal other).2)]) (cond (!(!(inB lead (0:Int) (1:Int)))) ((2≤h.fl∧h.fl≤12)∧cond (!(!(inB goal 0 (h.fl - 1)))) (cond (!(inB other ((-2):Int) h.fl)) ((.agg #[I Z 3,I Z 0,I Z 0]:Value)=.agg #[I Z (Hs.goalK h s lead goal other),I Z ((Hs.goalV h s lead goal other).1),I Z ((Hs.goalV h s lead goal other).2)]) (cond (lead == 0) ((CarOk h s.up)∧(sideB 1∧(-1000≤goal∧goal≤1000)∧(-1000≤other∧other≤1000)∧-1000≤(Hs.at6 h s.up.pos)∧(Hs.at6 h s.up.pos)≤1000)∧(.agg #[I Z 0,I Z goal,I Z (asideR goal 1 other (Hs.at6 h s.up.pos))]:Value)=.agg #[I Z (Hs.goalK h s lead goal other),I Z ((Hs.goalV h s lead goal other).1),I Z ((Hs.goalV h s lead goal other).2)]) ((CarOk h s.lo)∧(sideB (-1)∧(-1000≤goal∧goal≤1000)∧(-1000≤other∧other≤1000)∧-1000≤(Hs.at6 h s.lo.pos)∧(Hs.at6 h s.lo.pos)≤1000)∧(.agg #[I Z 0,I Z (asideR goal (-1) other (Hs.at6 h s.lo.pos)),I Z goal]:Value)=.agg #[I Z (Hs.goalK h s lead goal other),I Z ((Hs.goalV h s lead goal other).1),I Z ((Hs.goalV h s lead goal other).2)]))) ((.agg #[I Z 3,I Z 0,I Z 0]:Value)=.agg #[I Z (Hs.goalK h s lead goal other),I Z ((Hs.goalV h s lead goal other).1),I Z ((Hs.goalV h s lead goal other).2)])) ((.agg #[I Z 3,I Z 0,I Z 0]:Value)=.agg #[I Z (Hs.goalK h s lead goal other),I Z ((Hs.goalV h s lead goal other).1),I Z ((Hs.goalV h s lead goal other).2)]))) (by kernel_rfl) ?_ w
 refine if_b (fun e=>?_) (fun e=>?_)
 ·have e:¬ h.shaft s=0:=by simpa using e
  have q1:Hs.goalK h s lead goal other=h.shaft s:=if_neg e
  have q2:Hs.goalV h s lead goal other=(0,0):=by unfold Hs.goalV;rw [q1];exact if_neg e
  rw [q1,q2]
 ·have e:h.shaft s=0:=by simpa using e
  have o:=(Hs.car_zero (shaft_parts e).1).ok
  have f1:=o.fl1;have f2:=o.fl2
  refine if_b (fun e1=>⟨⟨by omega,by omega⟩,?_⟩) (fun e1=>?_)
  ·have e1:inB lead 0 1=true:=by simpa using e1
   refine if_b (fun e2=>?_) (fun e2=>?_)
   ·have e2:inB goal 0 (h.fl - 1)=true:=by simpa using e2
    refine if_b (fun e3=>?_) (fun e3=>?_)
    ·have q1:Hs.goalK h s lead goal other=3:=by unfold Hs.goalK;rw [if_pos e,if_neg (by simp at e3;simp [e3])]
     have q2:Hs.goalV h s lead goal other=(0,0):=by unfold Hs.goalV;rw [q1];exact if_neg (by omega)
     rw [q1,q2]
    have e3:inB other (-2) h.fl=true:=by simpa using e3
    have q1:Hs.goalK h s lead goal other=0:=by unfold Hs.goalK;rw [if_pos e,if_pos ⟨e1,e2,e3⟩]
    have b1:=inB_iff.1 e2
    have b2:=inB_iff.1 e3
    refine if_b (fun z=>?_) (fun z=>?_)
    ·have hz:lead=0:=by simpa using z
     have bf:=Hs.at6_bd o s.up.pos
     refine ⟨Hs.car_zero (shaft_parts e).2.1,⟨Or.inl rfl,⟨by omega,by omega⟩,⟨by omega,by omega⟩,by omega,by omega⟩,?_⟩
     have q2:Hs.goalV h s lead goal other=(goal,asideR goal 1 other (Hs.at6 h s.up.pos)):=by
      unfold Hs.goalV Hs.goals
      rw [if_pos q1,if_pos hz]
      generalize Hs.at6 h s.up.pos=ft at bf
      unfold asideR
      congr 1
      by_cases c1:other=-2 ∨ other≤goal
      ·rw [if_pos c1,if_neg (by omega)]
       split <;> omega
      ·rw [if_neg c1,if_pos (by omega)]
     rw [q1,q2]
    ·have hz:¬ lead=0:=by simpa using z
     have bf:=Hs.at6_bd o s.lo.pos
     refine ⟨Hs.car_zero (shaft_parts e).1,⟨Or.inr rfl,⟨by omega,by omega⟩,⟨by omega,by omega⟩,by omega,by omega⟩,?_⟩
     have q2:Hs.goalV h s lead goal other=(asideR goal (-1) other (Hs.at6 h s.lo.pos),goal):=by
      unfold Hs.goalV Hs.goals
      rw [if_pos q1,if_neg hz]
      generalize Hs.at6 h s.lo.pos=ft at bf
      unfold asideR
      congr 1
      by_cases c1:other=-2 ∨ goal≤other
      ·rw [if_pos c1,if_neg (by omega)]
       split <;> omega
      ·rw [if_neg c1,if_pos (by omega)]
     rw [q1,q2]
   ·have q1:Hs.goalK h s lead goal other=3:=by unfold Hs.goalK;rw [if_pos e,if_neg (by simp at e2;simp [e2])]
    have q2:Hs.goalV h s lead goal other=(0,0):=by unfold Hs.goalV;rw [q1];exact if_neg (by omega)
    rw [q1,q2]
  ·have q1:Hs.goalK h s lead goal other=3:=by unfold Hs.goalK;rw [if_pos e,if_neg (by simp at e1;simp [e1])]
   have q2:Hs.goalV h s lead goal other=(0,0):=by unfold Hs.goalV;rw [q1];exact if_neg (by omega)
   rw [q1,q2]
def iGoal:Ent Tryz.prog:=e5 kH kS kI kI kI 141 (fun h_ s_ l_ g_ o_=>none) (fun h_ s_ l_ g_ o_=>.agg #[I Z (Hs.goalK h_ s_ l_ g_ o_),I Z ((Hs.goalV h_ s_ l_ g_ o_).1),I Z ((Hs.goalV h_ s_ l_ g_ o_).2)]) fun h_ s_ l_ g_ o_ p w=>implGoalsFor_any h_ s_ l_ g_ o_ w
end Go.Proofs.YteimojoicfjdjaaGreat
namespace Go.Proofs.YteimojoicfjdjaaGreat
open Go.RowKit Pl
set_option linter.unusedSimpArgs false
set_option linter.unusedVariables false
def putR(w:World)(b:Nat)(k id nx:Int)(v:Value):World:=(((w.setCell ⟨b,0,none⟩ (.int .i64 k)).setCell ⟨b,1,none⟩ (.int .i64 id)).setCell ⟨b,2,none⟩ (.int .i64 nx)).setCell ⟨b,3,none⟩ v
theorem Ow.putR{w:World}{B g n cap b:Nat}{l:List Pe}(h:Ow w B g n cap l)(hne:g ≠ b)(k id nx:Int)(v:Value):Ow (putR w b k id nx v) B g n cap l:=
 (((h.other (p:=⟨b,0,none⟩) hne _).other (p:=⟨b,1,none⟩) hne _).other (p:=⟨b,2,none⟩) hne _).other (p:=⟨b,3,none⟩) hne _
end Go.Proofs.YteimojoicfjdjaaGreat
namespace Go.Proofs.YteimojoicfjdjaaGreat
open Go.RowKit Pl Go.Maps
set_option linter.unusedSimpArgs false
set_option linter.unusedVariables false
def loS(x:Ss)(z:Int)(f:Int):Option Int:=if x.l.lo≤f∧f < z then some 0 else none
def upS(x:Ss)(z:Int)(f:Int):Option Int:=if x.l.lo≤f∧f≤x.l.hi then some 0 else if x.u.lo≤f∧f < z then some 1 else none
theorem loS_next{x:Ss}{z:Int}(h:x.l.lo≤z):(fun g=>if g=z then some 0 else loS x z g)=loS x (z + 1):=by
 funext g
 unfold loS
 by_cases e:g=z
 ·rw [if_pos e,if_pos (by omega)]
 ·rw [if_neg e]
  by_cases c:x.l.lo≤g∧g < z
  ·rw [if_pos c,if_pos (by omega)]
  ·rw [if_neg c,if_neg (by omega)]
theorem upS_start{x:Ss}:loS x (x.l.hi + 1)=upS x x.u.lo:=by
 funext g
 unfold loS upS
 by_cases c:x.l.lo≤g∧g≤x.l.hi
 ·rw [if_pos (by omega),if_pos c]
 ·rw [if_neg (by omega),if_neg c,if_neg (by omega)]
theorem upS_next{x:Ss}{z:Int}(k:x.l.hi < x.u.lo)(h:x.u.lo≤z):(fun g=>if g=z then some 1 else upS x z g)=upS x (z + 1):=by
 funext g
 unfold upS
 by_cases e:g=z
 ·rw [if_pos e,if_neg (by omega),if_pos (by omega)]
 ·rw [if_neg e]
  by_cases c:x.l.lo≤g∧g≤x.l.hi
  ·rw [if_pos c,if_pos c]
  ·rw [if_neg c,if_neg c]
   by_cases d:x.u.lo≤g∧g < z
   ·rw [if_pos d,if_pos (by omega)]
   ·rw [if_neg d,if_neg (by omega)]
def inCB(cv:Ss)(c f:Int):Bool:=if c=0 then !(decide (f < cv.l.lo) || decide (cv.l.hi < f)) else !(decide (f < cv.u.lo) || decide (cv.u.hi < f))
def midS(S:Int→Option Int)(cv:Ss)(left:Lit→Bool)(f:Int):Option Int:=
 match S f with
 | none=>none
 | some c=>if left (key2 f f)=true ∨ inCB cv c f=true then some c else none
def cutM(S:Int→Option Int)(cv:Ss)(f:Int):Option Int:=
 match S f with
 | none=>none
 | some c=>if inCB cv c f=true then some c else none
theorem mid_of{S:Int→Option Int}{cv:Ss}{left:Lit→Bool}{f c:Int}(h:midS S cv left f=some c):S f=some c:=by
 unfold midS at h
 split at h
 ·cases h
 ·rename_i d e
  split at h
  ·cases h;exact e
  ·cases h
theorem mid_start{D:DataW Unit}{S:Int→Option Int}(t:Told D S)(cv:Ss):midS S cv (Maps.has D)=S:=by
 funext f
 unfold midS
 split
 ·rename_i e;exact e.symm
 ·rename_i c e
  rw [if_pos (Or.inl (t.some_ f c e).1)]
  exact e.symm
theorem left_other{left:Lit→Bool}{f g:Int}(f1:-1≤f)(f2:f≤1000)(g1:-1≤g)(g2:g≤1000)(ne:g ≠ f):(fun z:Lit=>left z && !z.sameKey (key2 f f)) (key2 g g)=left (key2 g g):=by
 dsimp only
 rw [sameKey_ne (key_ne g1 g2 f1 f2 ne)]
 simp
theorem left_else{left:Lit→Bool}{f g:Int}(f1:-1≤f)(f2:f≤1000)(g1:-1≤g)(g2:g≤1000)(ne:g ≠ f):(left (key2 g g) && !(key2 g g).sameKey (key2 f f))=left (key2 g g):=left_other f1 f2 g1 g2 ne
theorem left_same{left:Lit→Bool}{f:Int}(f1:-1≤f)(f2:f≤1000):(fun z:Lit=>left z && !z.sameKey (key2 f f)) (key2 f f)=false:=by
 dsimp only
 rw [WideAt.sameKey_self (key_is f1 f2)]
 simp
theorem mid_keep{S:Int→Option Int}{cv:Ss}{left:Lit→Bool}{f c:Int}(hS:∀ f c,S f=some c→-1≤f∧f≤1000)(e:S f=some c)(k:inCB cv c f=true):midS S cv (fun z=>left z && !z.sameKey (key2 f f))=midS S cv left:=by
 funext g
 unfold midS
 split
 ·rfl
 ·rename_i d ed
  by_cases ne:g=f
  ·subst ne
   rw [e] at ed
   cases ed
   rw [if_pos (Or.inr k),if_pos (Or.inr k)]
  ·obtain ⟨a,b⟩:=hS g d ed
   obtain ⟨a',b'⟩:=hS f c e
   rw [left_other a' b' a b ne]
theorem mid_drop{S:Int→Option Int}{cv:Ss}{left:Lit→Bool}{f c:Int}(hS:∀ f c,S f=some c→-1≤f∧f≤1000)(e:S f=some c)(k:inCB cv c f=false):(fun g=>if g=f then none else midS S cv left g)=midS S cv (fun z=>left z && !z.sameKey (key2 f f)):=by
 funext g
 obtain ⟨a',b'⟩:=hS f c e
 by_cases ne:g=f
 ·subst ne
  rw [if_pos rfl]
  unfold midS
  rw [e]
  dsimp only
  rw [if_neg]
  intro q
  rcases q with q | q
  ·have:=left_same (left:=left) a' b'
   dsimp only at this
   rw [this] at q
   cases q
  ·rw [k] at q;cases q
 ·rw [if_neg ne]
  unfold midS
  split
  ·rfl
  ·rename_i d ed
   obtain ⟨a,b⟩:=hS g d ed
   rw [left_other a' b' a b ne]
theorem mid_end{S:Int→Option Int}{cv:Ss}{left:Lit→Bool}(h:∀ kl,left kl=false):midS S cv left=cutM S cv:=by
 funext g
 unfold midS cutM
 split
 ·rfl
 ·rw [h]
  simp
structure LeftI(S:Int→Option Int)(car:Int)(had:Sp)(left:Lit→Bool)(g:Sp):Prop where
 in_:∀ f,S f=some car→left (key2 f f)=false→g.lo≤f∧f≤g.hi
 lo_:g.lo=had.hi ∨ S g.lo=some car
 hi_:g.hi=had.lo ∨ S g.hi=some car
theorem left_start{D:DataW Unit}{S:Int→Option Int}(t:Told D S)(car:Int)(had:Sp):LeftI S car had (Maps.has D) ⟨had.hi,had.lo⟩:=
 ⟨fun f h q=>(by rw [(t.some_ f car h).1] at q;cases q),Or.inl rfl,Or.inl rfl⟩
theorem left_grow{S:Int→Option Int}{car:Int}{had g:Sp}{left:Lit→Bool}{f:Int}(a:LeftI S car had left g)(hS:∀ f c,S f=some c→-1≤f∧f≤1000)(e:S f=some car):LeftI S car had (fun z=>left z && !z.sameKey (key2 f f)) (growS g f):=by
 obtain ⟨a',b'⟩:=hS f car e
 refine ⟨fun k hk q=>?_,?_,?_⟩
 ·show min g.lo f≤k∧k≤max g.hi f
  by_cases ne:k=f
  ·omega
  ·obtain ⟨b1,b2⟩:=hS k car hk
   rw [left_else a' b' b1 b2 ne] at q
   have:=a.in_ k hk q
   omega
 ·show min g.lo f=had.hi ∨ S (min g.lo f)=some car
  by_cases c:g.lo≤f
  ·rw [Int.min_eq_left c];exact a.lo_
  ·rw [Int.min_eq_right (by omega)];exact Or.inr e
 ·show max g.hi f=had.lo ∨ S (max g.hi f)=some car
  by_cases c:f≤g.hi
  ·rw [Int.max_eq_left c];exact a.hi_
  ·rw [Int.max_eq_right (by omega)];exact Or.inr e
theorem left_pass{S:Int→Option Int}{car c:Int}{had g:Sp}{left:Lit→Bool}{f:Int}(a:LeftI S car had left g)(hS:∀ f c,S f=some c→-1≤f∧f≤1000)(e:S f=some c)(ne:c ≠ car):LeftI S car had (fun z=>left z && !z.sameKey (key2 f f)) g:=by
 obtain ⟨a',b'⟩:=hS f c e
 refine ⟨fun k hk q=>?_,a.lo_,a.hi_⟩
 by_cases nk:k=f
 ·subst nk
  rw [e] at hk
  cases hk
  exact absurd rfl ne
 ·obtain ⟨b1,b2⟩:=hS k car hk
  rw [left_else a' b' b1 b2 nk] at q
  exact a.in_ k hk q
def keptS(had g:Sp):Sp:=if g.hi < g.lo then had else g
theorem kept_cut{S:Int→Option Int}{car:Int}{had cv g:Sp}{left:Lit→Bool}(a:LeftI S car had left g)(hl:∀ kl,left kl=false)(hh:had.lo≤had.hi)(iff:∀ f,S f=some car ↔ (had.lo≤f∧f≤had.hi)∧(cv.lo≤f∧f≤cv.hi)):keptS had g=cutS had cv:=by
 obtain ⟨p,q⟩:(g.lo=had.hi ∨ ((had.lo≤g.lo∧g.lo≤had.hi)∧(cv.lo≤g.lo∧g.lo≤cv.hi)))∧(g.hi=had.lo ∨ ((had.lo≤g.hi∧g.hi≤had.hi)∧(cv.lo≤g.hi∧g.hi≤cv.hi))):=
  ⟨a.lo_.imp id (iff _).1,a.hi_.imp id (iff _).1⟩
 unfold keptS cutS
 obtain ⟨hlo,hhi⟩:=had
 obtain ⟨clo,chi⟩:=cv
 obtain ⟨glo,ghi⟩:=g
 dsimp only at *
 by_cases c:min hhi chi < max hlo clo
 ·rw [if_pos c]
  by_cases d:ghi < glo
  ·rw [if_pos d]
  ·rw [if_neg d,Sp.mk.injEq];omega
 ·rw [if_neg c]
  have i1:=a.in_ (max hlo clo) ((iff _).2 (by omega)) (hl _)
  have i2:=a.in_ (min hhi chi) ((iff _).2 (by omega)) (hl _)
  dsimp only at i1 i2
  rw [if_neg (by omega),Sp.mk.injEq]
  omega
theorem cut_lo{x cv:Ss}(k:x.l.hi < x.u.lo)(z:Int)(f:Int):cutM (upS x z) cv f=some 0 ↔ (x.l.lo≤f∧f≤x.l.hi)∧(cv.l.lo≤f∧f≤cv.l.hi):=by
 unfold cutM upS inCB
 by_cases c:x.l.lo≤f∧f≤x.l.hi
 ·simp only [if_pos c]
  simp
  omega
 ·simp only [if_neg c]
  by_cases d:x.u.lo≤f∧f < z
  ·simp only [if_pos d]
   simp
   omega
  ·simp only [if_neg d]
   simp
   omega
theorem cut_up{x cv:Ss}(k:x.l.hi < x.u.lo)(f:Int):cutM (upS x (x.u.hi + 1)) cv f=some 1 ↔ (x.u.lo≤f∧f≤x.u.hi)∧(cv.u.lo≤f∧f≤cv.u.hi):=by
 unfold cutM upS inCB
 by_cases c:x.l.lo≤f∧f≤x.l.hi
 ·simp only [if_pos c]
  simp
  omega
 ·simp only [if_neg c]
  by_cases d:x.u.lo≤f∧f < x.u.hi + 1
  ·simp only [if_pos d]
   simp
   omega
  ·simp only [if_neg d]
   simp
   omega
theorem cutM_car{S:Int→Option Int}{cv:Ss}{f c:Int}(h:cutM S cv f=some c):S f=some c:=by
 unfold cutM at h
 split at h
 ·cases h
 ·rename_i d e
  split at h
  ·cases h;exact e
  ·cases h
theorem upS_car{x:Ss}{z f c:Int}(h:upS x z f=some c):c=0 ∨ c=1:=by
 unfold upS at h
 split at h
 ·cases h;exact Or.inl rfl
 ·split at h
  ·cases h;exact Or.inr rfl
  ·cases h
end Go.Proofs.YteimojoicfjdjaaGreat
namespace Go.Proofs.YteimojoicfjdjaaGreat
set_option maxRecDepth 20000
set_option maxHeartbeats 16000000
open Value renaming int → I
open IntKind renaming i64 → Z
open Go.RowKit Pl Go.Maps
set_option linter.unusedSimpArgs false
set_option linter.unusedVariables false
theorem heldFloors_any(x:Ss)(l1:-1≤x.l.lo)(l2:x.l.lo≤x.l.hi)(k:x.l.hi < x.u.lo)(u1:x.u.lo≤x.u.hi)(u2:x.u.hi≤900)(w:World) :
  Calls Tryz.prog 150 #[.agg #[I Z x.l.lo,I Z x.l.hi,I Z x.u.lo,I Z x.u.hi]] w fun e w'=>∃ b n,e=.returned (.map (some b))∧w.heap.size≤b∧n≤1000∧Held w' b n (upS x (x.u.hi + 1))∧Below w.heap.size w w':=by
 have hmm:=@run_makeMap Tryz.prog
 have F0:Hid (NW ((w.alloc (.cells #[I Z x.l.lo,I Z x.l.hi,I Z x.u.lo,I Z x.u.hi] 71)).alloc (.map #[] 0)) w.heap.size x):=(NW.at_ w x _ _ (by simp)).alloc _
 have FM:Hid (Held ((w.alloc (.cells #[I Z x.l.lo,I Z x.l.hi,I Z x.u.lo,I Z x.u.hi] 71)).alloc (.map #[] 0)) (w.heap.size + 1) (x.l.lo + 1).toNat (loS x x.l.lo)):=by
  have t:Told (.map []) (loS x x.l.lo):=by
   have e:loS x x.l.lo=fun _=>none:=by
    funext f
    unfold loS
    rw [if_neg (by omega)]
   rw [e]
   exact Told.empty
  have ho:=World.ownsMap_made (w.alloc (.cells #[I Z x.l.lo,I Z x.l.hi,I Z x.u.lo,I Z x.u.hi] 71)) Tryz.prog 69 RI
  rw [show (w.alloc (.cells #[I Z x.l.lo,I Z x.l.hi,I Z x.u.lo,I Z x.u.hi] 71)).heap.size=w.heap.size + 1 by simp] at ho
  exact ⟨_,ho.mono (by omega),t⟩
 have FB:Hid (Below w.heap.size w ((w.alloc (.cells #[I Z x.l.lo,I Z x.l.hi,I Z x.u.lo,I Z x.u.hi] 71)).alloc (.map #[] 0))):=((Below.refl _ _).alloc (Nat.le_refl _) _).alloc (by simp) _
 obtain ⟨W0,hW0⟩:∃ W0,W0=((w.alloc (.cells #[I Z x.l.lo,I Z x.l.hi,I Z x.u.lo,I Z x.u.hi] 71)).alloc (.map #[] 0)):=⟨_,rfl⟩
 rw [← hW0] at F0 FM FB
 have HW0:=zH hW0
 clear hW0
 go_enter Tryz.func150,Tryz.ntmps150
 go_upto_region 2 with fail
 rw [← HW0.out]
 clear HW0 hmm
 obtain ⟨x0_0,x0_1,x0_2,x0_3,y0_0,y0_1,y0_2,y0_3⟩:=F0.out
 go_wp2_with fail
 clear x0_0 x0_1 x0_2 x0_3 y0_0 y0_1 y0_2 y0_3
 go_loopw [4] (fun nn wr=>∃ z:Int,nn=I Z z∧x.l.lo≤z∧z≤x.l.hi + 1∧NW wr w.heap.size x∧Held wr (w.heap.size + 1) (z + 1).toNat (loS x z)∧Below w.heap.size w wr) (fun nn _=>(x.l.hi + 1 - intOf nn).toNat)
 case atStart=>exact ⟨x.l.lo,rfl,by omega,by omega,F0.out,FM.out,FB.out⟩
 case round=>
  obtain ⟨z,rfl,n1,n2,h0,h1,h2⟩:=hrel
  have F0:=zH h0
  have FM:=zH h1
  have FB:=zH h2
  clear h0 h1 h2
  obtain ⟨x0_0,x0_1,x0_2,x0_3,y0_0,y0_1,y0_2,y0_3⟩:=F0.out
  by_cases hlt:z≤x.l.hi
  ·have ez:IntKind.i64.wrap (z + 1)=z + 1:=IntWalk.i64_in _ (by omega)
   go_wp2_with (first | (go_at_call 173;refine (oneFloor_any z _).mono ?_;rintro e w1 ⟨rfl,hb⟩;have F0:=zH (F0.out.below hb F0.out.lt);have FM:=zH (FM.out.below hb FM.out.lt);have FB:=tB FB hb;clear hb) | (at_mapUpdate;obtain ⟨D,ho,t⟩:=FM.out;refine wpList_mapUpdate_own _ rfl _ _ _ 187 rfl 69 2 lawM undT RI (w.heap.size + 1) (z + 1).toNat _ rfl ho (by unfold maxLen;omega) _ _ _ rfl rfl (keyOf_span (wf64 (by omega) (by omega)) (wf64 (by omega) (by omega))) (.lit (.int .i64 0)) [] (plainElem_int undI (wf64 (by omega) (by omega))) ?_;intro w2 ho2 hg2) | fail)
   go_roundw
   case rel=>exact ⟨z + 1,rfl,by omega,by omega,F0.out.grown hg2 (by simp),⟨_,by rw [show ((z + 1) + 1).toNat=(z + 1).toNat + 1 by omega];exact ho2,by rw [← loS_next n1];exact t.put 0 (by omega) (by omega)⟩,FB.out.grown hg2 FB.out.size (fun j hj=>by cases hj;omega)⟩
   case measure=>simp [intOf];omega
  ·have ez:z=x.l.hi + 1:=by omega
   subst ez
   have FM:Hid (Held wr (w.heap.size + 1) (x.u.lo + 1).toNat (upS x x.u.lo)):=by
    obtain ⟨D,ho,t⟩:=FM.out
    rw [← upS_start]
    exact ⟨D,ho.mono (by omega),t⟩
   clear hlt n1 n2
   go_wp2_with fail
   go_loopw [5] (fun nn wr=>∃ z:Int,nn=I Z z∧x.u.lo≤z∧z≤x.u.hi + 1∧NW wr w.heap.size x∧Held wr (w.heap.size + 1) (z + 1).toNat (upS x z)∧Below w.heap.size w wr) (fun nn _=>(x.u.hi + 1 - intOf nn).toNat)
   case atStart=>exact ⟨x.u.lo,rfl,by omega,by omega,F0.out,FM.out,FB.out⟩
   case round=>
    obtain ⟨z,rfl,n1,n2,h0,h1,h2⟩:=hrel
    have F0:=zH h0
    have FM:=zH h1
    have FB:=zH h2
    clear h0 h1 h2
    clear x0_0 x0_1 x0_2 x0_3 y0_0 y0_1 y0_2 y0_3
    obtain ⟨x0_0,x0_1,x0_2,x0_3,y0_0,y0_1,y0_2,y0_3⟩:=F0.out
    by_cases hlt:z≤x.u.hi
    ·have ez:IntKind.i64.wrap (z + 1)=z + 1:=IntWalk.i64_in _ (by omega)
     go_wp2_with (first | (go_at_call 173;refine (oneFloor_any z _).mono ?_;rintro e w1 ⟨rfl,hb⟩;have F0:=zH (F0.out.below hb F0.out.lt);have FM:=zH (FM.out.below hb FM.out.lt);have FB:=tB FB hb;clear hb) | (at_mapUpdate;obtain ⟨D,ho,t⟩:=FM.out;refine wpList_mapUpdate_own _ rfl _ _ _ 187 rfl 69 2 lawM undT RI (w.heap.size + 1) (z + 1).toNat _ rfl ho (by unfold maxLen;omega) _ _ _ rfl rfl (keyOf_span (wf64 (by omega) (by omega)) (wf64 (by omega) (by omega))) (.lit (.int .i64 1)) [] (plainElem_int undI (wf64 (by omega) (by omega))) ?_;intro w2 ho2 hg2) | fail)
     go_roundw
     case rel=>exact ⟨z + 1,rfl,by omega,by omega,F0.out.grown hg2 (by simp),⟨_,by rw [show ((z + 1) + 1).toNat=(z + 1).toNat + 1 by omega];exact ho2,by rw [← upS_next k n1];exact t.put 1 (by omega) (by omega)⟩,FB.out.grown hg2 FB.out.size (fun j hj=>by cases hj;omega)⟩
     case measure=>simp [intOf];omega
    ·have ez:z=x.u.hi + 1:=by omega
     subst ez
     clear hlt n1 n2
     go_wp2_with fail
     go_ret
     exact ⟨_,_,rfl,by omega,by omega,FM.out,FB.out⟩
theorem giveBack_any(b n:Nat)(S:Int→Option Int)(cv:Ss)(hS:∀ f c,S f=some c→-1≤f∧f≤1000)(hc:∀ f c,S f=some c→c=0 ∨ c=1)(w:World)(hm:Held w b n S) :
  Calls Tryz.prog 151 #[.map (some b),.agg #[I Z cv.l.lo,I Z cv.l.hi,I Z cv.u.lo,I Z cv.u.hi]] w fun e w'=>e=.returned (.tuple #[])∧Held w' b n (cutM S cv)∧w.grownBy w' (some b):=by
 have HS:=zH hS
 have HC:=zH hc
 clear hS hc
 have bl:b < w.heap.size:=hm.lt
 have F0:Hid (NW (w.alloc (.cells #[I Z cv.l.lo,I Z cv.l.hi,I Z cv.u.lo,I Z cv.u.hi] 190)) w.heap.size cv):=NW.at_ w cv _ _ rfl
 have FG:Hid (w.grownBy (w.alloc (.cells #[I Z cv.l.lo,I Z cv.l.hi,I Z cv.u.lo,I Z cv.u.hi] 190)) (some b)):=World.grownBy_alloc w _ _
 have es:(w.alloc (.cells #[I Z cv.l.lo,I Z cv.l.hi,I Z cv.u.lo,I Z cv.u.hi] 190)).heap.size=w.heap.size + 1:=by simp
 obtain ⟨D0,ho0,t0⟩:=hm.alloc (.cells #[I Z cv.l.lo,I Z cv.l.hi,I Z cv.u.lo,I Z cv.u.hi] 190)
 have HO0:=zH ho0
 have HT0:=zH t0
 clear ho0 t0
 obtain ⟨W0,hW0⟩:∃ W0,W0=(w.alloc (.cells #[I Z cv.l.lo,I Z cv.l.hi,I Z cv.u.lo,I Z cv.u.hi] 190)):=⟨_,rfl⟩
 rw [← hW0] at F0 FG HO0 es
 have HES:=zH es
 clear es
 have HW0:=zH hW0
 clear hW0
 go_enter Tryz.func151,Tryz.ntmps151
 go_upto_region 1 with fail
 rw [← HW0.out]
 clear HW0
 go_wp2_with (first | (at_range;refine wpList_range_own _ rfl _ 187 rfl 69 2 lawM undT RI b n D0 rfl HO0.out ?_;intro w0 hrg0 hg0 hs0) | fail)
 have F0:Hid (NW w0 w.heap.size cv):=F0.out.grown hg0 (by simp)
 have FG:Hid (w.grownBy w0 (some b)):=FG.out.andThen hg0 (fun j hj=>by cases hj)
 go_frame
 go_loopw [5] (fun _ wr=>∃ (left:Lit→Bool) (cnt:Nat) (D:DataW Unit),wr.ranges Tryz.prog 69 RI b W0.heap.size n D left cnt∧Told D (midS S cv left)∧NW wr w.heap.size cv∧w.grownBy wr (some b)) (fun _ wr=>wr.rangeLeft b W0.heap.size)
 case atStart=>exact ⟨_,_,_,hrg0,by rw [mid_start HT0.out];exact HT0.out,F0.out,FG.out⟩
 case round=>
  obtain ⟨left,cnt,D,hrg,ht,h0,h1⟩:=hrel
  clear hrg0 hg0 HO0 HT0
  have HT:=zH ht
  clear ht
  go_wp2_with (first | (at_next;refine wpList_next_ranges _ rfl _ rfl 69 lawM RI (fun p:Int × Int=>.agg #[I Z p.1,I Z p.2]) (fun c:Int=>I Z c) (fun key kl hk=>by obtain ⟨a,b,e,_⟩:=keyOf_span_inv hk;exact ⟨(a,b),e⟩) (fun v y hv=>by obtain ⟨c,e,_⟩:=plainElem_int_inv undI hv;exact ⟨c,e⟩) b W0.heap.size n D left cnt rfl hrg ?_ ?_) | fail)
  ·intro _ hl0
   go_wp2_with fail
   go_end0
   exact ⟨rfl,⟨D,hrg.owns,by rw [← mid_end hl0];exact HT.out⟩,h1⟩
  ·intro f f' c kl y1 y2 w1 cnt1 hkey hlk hv hat hrg1 hlt hg1 hs1 hen
   try dsimp only at hkey hv hen
   obtain ⟨ef,ek,eS,d1,d2⟩:=told_step HT.out hkey hv hat
   have ef2:=ef.symm
   clear ef
   subst ef2
   subst ek
   have HE:Hid (S f=some c):=mid_of eS
   have HF:Hid (-1≤f∧f≤1000):=⟨d1,d2⟩
   have hcc:=HC.out f c HE.out
   have F0:Hid (NW w1 w.heap.size cv):=h0.grown hg1 (by simp [HES.out])
   have FG:Hid (w.grownBy w1 (some b)):=h1.andThen hg1 (fun j hj=>by cases hj;exact Or.inl (by rw [HES.out];omega))
   have hsz:w.heap.size + 1 < w1.heap.size:=by rw [hs1,← HES.out];exact hrg.lt
   clear h0 h1 eS d1 d2 hv hat hlk hg1 hs1
   try dsimp only
   go_wp2_with fail
   obtain ⟨fb,hfb⟩:∃ fb,fb=w1.heap.size:=⟨_,rfl⟩
   obtain ⟨W1,hW1⟩:∃ W1,W1=w1.alloc (.cells #[I Z f,I Z f] 69):=⟨_,rfl⟩
   have F0:Hid (NW W1 w.heap.size cv):=by rw [hW1];exact F0.out.alloc _
   have F1:Hid (MW W1 fb (⟨f,f⟩:Sp)):=by rw [hW1];exact MW.at_ w1 ⟨f,f⟩ _ fb hfb
   have FR:Hid (W1.ranges Tryz.prog 69 RI b W0.heap.size n D (fun z=>left z && !z.sameKey (key2 f f)) cnt1):=by rw [hW1];exact hrg1.alloc _
   have FG:Hid (w.grownBy W1 (some b)):=by rw [hW1];exact FG.out.andThen (World.grownBy_alloc _ _ none) (fun j hj=>by cases hj)
   have lfb:w.heap.size + 1 < fb:=by rw [hfb];exact hsz
   rw [← hW1,← hfb]
   clear hW1 hfb hsz hrg1 hen
   rcases hcc with rfl | rfl
   ·by_cases c1:f < cv.l.lo
    ·have b1:decide (f < cv.l.lo)=true:=decide_eq_true c1
     have ki:inCB cv 0 f=false:=by unfold inCB;simp [c1]
     clear c1
     have F0:=zH (F0.out.below (Below.refl _ _).drew F0.out.lt)
     have F1:=zH (F1.out.below (Below.refl _ _).drew F1.out.lt)
     have FR:Hid (W1.drew.ranges Tryz.prog 69 RI b W0.heap.size n D (fun z=>left z && !z.sameKey (key2 f f)) cnt1):=rng_drew FR.out
     have FG:Hid (w.grownBy W1.drew (some b)):=grown_drew FG.out
     have m0:=F0.out.c0
     have m1:=F0.out.c1
     have m2:=F0.out.c2
     have m3:=F0.out.c3
     have m4:=F1.out.c0
     have m5:=F1.out.c1
     refine wp_region_held_drew (S:=(fun w''=>w''.cell? ⟨w.heap.size,0,none⟩=some (I Z cv.l.lo)∧w''.cell? ⟨w.heap.size,1,none⟩=some (I Z cv.l.hi)∧w''.cell? ⟨w.heap.size,2,none⟩=some (I Z cv.u.lo)∧w''.cell? ⟨w.heap.size,3,none⟩=some (I Z cv.u.hi)∧w''.cell? ⟨fb,0,none⟩=some (I Z f)∧w''.cell? ⟨fb,1,none⟩=some (I Z f))) (by kernel_rfl) (by (try dsimp only);first | exact ⟨m0,m1,m2,m3,m4,m5⟩ | go_keep) (fun hHeld=>?_)
     obtain ⟨v_1,hw1⟩:∃ v_1,v_1=W1.drew:=⟨_,rfl⟩
     rw [← hw1] at F0 F1 FR FG hHeld ⊢
     clear hw1
     have m0:=F0.out.c0
     have m1:=F0.out.c1
     have m2:=F0.out.c2
     have m3:=F0.out.c3
     have m4:=F1.out.c0
     have m5:=F1.out.c1
     refine tkz 0 rfl ?_
     refine tkz 1 rfl ?_
     refine tkz 2 rfl ?_
     refine tkz 3 rfl ?_
     refine tkz 4 rfl ?_
     refine tkz 5 rfl ?_
     refine tkz 6 rfl ?_
     refine tkz 7 rfl ?_
     refine tbz 8 rfl ?_
     refine tbz 9 rfl ?_
     refine tbz 10 rfl ?_
     refine tbz 11 rfl ?_
     refine tbz 12 rfl ?_
     refine tbz 13 rfl ?_
     refine tbz 14 rfl ?_
     refine tkz 15 rfl ?_
     refine wpAnyH_done (by kernel_rfl) ?_ _
     go_wp2_with (first | (at_delete;refine wpList_delete_ranges _ rfl _ _ 187 69 rfl 2 lawM undT _ b W0.heap.size n _ _ _ rfl FR.out _ _ rfl hkey ?_;intro w2 cnt2 hrg2 hle hturn;go_frame) | fail)
     rw [strike_twice] at hrg2
     go_roundw
     case rel=>exact ⟨_,cnt2,_,hrg2,by rw [← mid_drop HS.out HE.out ki];exact HT.out.del HF.out.1 HF.out.2,F0.out.grown hturn.grown (by simp;omega),FG.out.andThen hturn.grown (fun j hj=>by cases hj;exact Or.inr rfl)⟩
     case measure=>rw [hrg2.left_eq,hrg.left_eq];omega
    ·have b1:decide (f < cv.l.lo)=false:=decide_eq_false c1
     by_cases c2:cv.l.hi < f
     ·have b2:decide (cv.l.hi < f)=true:=decide_eq_true c2
      have ki:inCB cv 0 f=false:=by unfold inCB;simp [c2]
      clear c1 c2
      have F0:=zH (F0.out.below (Below.refl _ _).drew F0.out.lt)
      have F1:=zH (F1.out.below (Below.refl _ _).drew F1.out.lt)
      have FR:Hid (W1.drew.ranges Tryz.prog 69 RI b W0.heap.size n D (fun z=>left z && !z.sameKey (key2 f f)) cnt1):=rng_drew FR.out
      have FG:Hid (w.grownBy W1.drew (some b)):=grown_drew FG.out
      have m0:=F0.out.c0
      have m1:=F0.out.c1
      have m2:=F0.out.c2
      have m3:=F0.out.c3
      have m4:=F1.out.c0
      have m5:=F1.out.c1
      refine wp_region_held_drew (S:=(fun w''=>w''.cell? ⟨w.heap.size,0,none⟩=some (I Z cv.l.lo)∧w''.cell? ⟨w.heap.size,1,none⟩=some (I Z cv.l.hi)∧w''.cell? ⟨w.heap.size,2,none⟩=some (I Z cv.u.lo)∧w''.cell? ⟨w.heap.size,3,none⟩=some (I Z cv.u.hi)∧w''.cell? ⟨fb,0,none⟩=some (I Z f)∧w''.cell? ⟨fb,1,none⟩=some (I Z f))) (by kernel_rfl) (by (try dsimp only);first | exact ⟨m0,m1,m2,m3,m4,m5⟩ | go_keep) (fun hHeld=>?_)
      obtain ⟨v_2,hw1⟩:∃ v_2,v_2=W1.drew:=⟨_,rfl⟩
      rw [← hw1] at F0 F1 FR FG hHeld ⊢
      clear hw1
      have m0:=F0.out.c0
      have m1:=F0.out.c1
      have m2:=F0.out.c2
      have m3:=F0.out.c3
      have m4:=F1.out.c0
      have m5:=F1.out.c1
      refine tkz 0 rfl ?_
      refine tkz 1 rfl ?_
      refine tkz 2 rfl ?_
      refine tkz 3 rfl ?_
      refine tkz 4 rfl ?_
      refine tkz 5 rfl ?_
      refine tkz 6 rfl ?_
      refine tkz 7 rfl ?_
      refine tkz 8 rfl ?_
      refine tkz 9 rfl ?_
      refine tkz 10 rfl ?_
      refine tkz 11 rfl ?_
      refine tkz 12 rfl ?_
      refine tkz 13 rfl ?_
      refine tkz 14 rfl ?_
      refine tkz 15 rfl ?_
      refine wpAnyH_done (by kernel_rfl) ?_ _
      go_wp2_with (first | (at_delete;refine wpList_delete_ranges _ rfl _ _ 187 69 rfl 2 lawM undT _ b W0.heap.size n _ _ _ rfl FR.out _ _ rfl hkey ?_;intro w2 cnt2 hrg2 hle hturn;go_frame) | fail)
      rw [strike_twice] at hrg2
      go_roundw
      case rel=>exact ⟨_,cnt2,_,hrg2,by rw [← mid_drop HS.out HE.out ki];exact HT.out.del HF.out.1 HF.out.2,F0.out.grown hturn.grown (by simp;omega),FG.out.andThen hturn.grown (fun j hj=>by cases hj;exact Or.inr rfl)⟩
      case measure=>rw [hrg2.left_eq,hrg.left_eq];omega
     ·have b2:decide (cv.l.hi < f)=false:=decide_eq_false c2
      have ki:inCB cv 0 f=true:=by unfold inCB;simp;omega
      clear c1 c2
      have F0:=zH (F0.out.below (Below.refl _ _).drew F0.out.lt)
      have F1:=zH (F1.out.below (Below.refl _ _).drew F1.out.lt)
      have FR:Hid (W1.drew.ranges Tryz.prog 69 RI b W0.heap.size n D (fun z=>left z && !z.sameKey (key2 f f)) cnt1):=rng_drew FR.out
      have FG:Hid (w.grownBy W1.drew (some b)):=grown_drew FG.out
      have m0:=F0.out.c0
      have m1:=F0.out.c1
      have m2:=F0.out.c2
      have m3:=F0.out.c3
      have m4:=F1.out.c0
      have m5:=F1.out.c1
      refine wp_region_held_drew (S:=(fun w''=>w''.cell? ⟨w.heap.size,0,none⟩=some (I Z cv.l.lo)∧w''.cell? ⟨w.heap.size,1,none⟩=some (I Z cv.l.hi)∧w''.cell? ⟨w.heap.size,2,none⟩=some (I Z cv.u.lo)∧w''.cell? ⟨w.heap.size,3,none⟩=some (I Z cv.u.hi)∧w''.cell? ⟨fb,0,none⟩=some (I Z f)∧w''.cell? ⟨fb,1,none⟩=some (I Z f))) (by kernel_rfl) (by (try dsimp only);first | exact ⟨m0,m1,m2,m3,m4,m5⟩ | go_keep) (fun hHeld=>?_)
      obtain ⟨v_3,hw1⟩:∃ v_3,v_3=W1.drew:=⟨_,rfl⟩
      rw [← hw1] at F0 F1 FR FG hHeld ⊢
      clear hw1
      have m0:=F0.out.c0
      have m1:=F0.out.c1
      have m2:=F0.out.c2
      have m3:=F0.out.c3
      have m4:=F1.out.c0
      have m5:=F1.out.c1
      refine tkz 0 rfl ?_
      refine tkz 1 rfl ?_
      refine tkz 2 rfl ?_
      refine tkz 3 rfl ?_
      refine tkz 4 rfl ?_
      refine tkz 5 rfl ?_
      refine tkz 6 rfl ?_
      refine tkz 7 rfl ?_
      refine tkz 8 rfl ?_
      refine tkz 9 rfl ?_
      refine tkz 10 rfl ?_
      refine tkz 11 rfl ?_
      refine tkz 12 rfl ?_
      refine tkz 13 rfl ?_
      refine tkz 14 rfl ?_
      refine tkz 15 rfl ?_
      refine wpAnyH_done (by kernel_rfl) ?_ _
      go_wp2_with fail
      go_roundw
      case rel=>exact ⟨_,cnt1,_,FR.out,by rw [mid_keep HS.out HE.out ki];exact HT.out,F0.out,FG.out⟩
      case measure=>rw [FR.out.left_eq,hrg.left_eq];exact hlt
   ·by_cases c1:f < cv.u.lo
    ·have b1:decide (f < cv.u.lo)=true:=decide_eq_true c1
     have ki:inCB cv 1 f=false:=by unfold inCB;simp [c1]
     clear c1
     have F0:=zH (F0.out.below (Below.refl _ _).drew F0.out.lt)
     have F1:=zH (F1.out.below (Below.refl _ _).drew F1.out.lt)
     have FR:Hid (W1.drew.ranges Tryz.prog 69 RI b W0.heap.size n D (fun z=>left z && !z.sameKey (key2 f f)) cnt1):=rng_drew FR.out
     have FG:Hid (w.grownBy W1.drew (some b)):=grown_drew FG.out
     have m0:=F0.out.c0
     have m1:=F0.out.c1
     have m2:=F0.out.c2
     have m3:=F0.out.c3
     have m4:=F1.out.c0
     have m5:=F1.out.c1
     refine wp_region_held_drew (S:=(fun w''=>w''.cell? ⟨w.heap.size,0,none⟩=some (I Z cv.l.lo)∧w''.cell? ⟨w.heap.size,1,none⟩=some (I Z cv.l.hi)∧w''.cell? ⟨w.heap.size,2,none⟩=some (I Z cv.u.lo)∧w''.cell? ⟨w.heap.size,3,none⟩=some (I Z cv.u.hi)∧w''.cell? ⟨fb,0,none⟩=some (I Z f)∧w''.cell? ⟨fb,1,none⟩=some (I Z f))) (by kernel_rfl) (by (try dsimp only);first | exact ⟨m0,m1,m2,m3,m4,m5⟩ | go_keep) (fun hHeld=>?_)
     obtain ⟨v_4,hw1⟩:∃ v_4,v_4=W1.drew:=⟨_,rfl⟩
     rw [← hw1] at F0 F1 FR FG hHeld ⊢
     clear hw1
     have m0:=F0.out.c0
     have m1:=F0.out.c1
     have m2:=F0.out.c2
     have m3:=F0.out.c3
     have m4:=F1.out.c0
     have m5:=F1.out.c1
     refine tkz 0 rfl ?_
     refine tkz 1 rfl ?_
     refine tkz 2 rfl ?_
     refine tkz 3 rfl ?_
     refine tkz 4 rfl ?_
     refine tkz 5 rfl ?_
     refine tkz 6 rfl ?_
     refine tkz 7 rfl ?_
     refine tbz 8 rfl ?_
     refine tbz 9 rfl ?_
     refine tbz 10 rfl ?_
     refine tbz 11 rfl ?_
     refine tbz 12 rfl ?_
     refine tbz 13 rfl ?_
     refine tbz 14 rfl ?_
     refine tkz 15 rfl ?_
     refine wpAnyH_done (by kernel_rfl) ?_ _
     go_wp2_with (first | (at_delete;refine wpList_delete_ranges _ rfl _ _ 187 69 rfl 2 lawM undT _ b W0.heap.size n _ _ _ rfl FR.out _ _ rfl hkey ?_;intro w2 cnt2 hrg2 hle hturn;go_frame) | fail)
     rw [strike_twice] at hrg2
     go_roundw
     case rel=>exact ⟨_,cnt2,_,hrg2,by rw [← mid_drop HS.out HE.out ki];exact HT.out.del HF.out.1 HF.out.2,F0.out.grown hturn.grown (by simp;omega),FG.out.andThen hturn.grown (fun j hj=>by cases hj;exact Or.inr rfl)⟩
     case measure=>rw [hrg2.left_eq,hrg.left_eq];omega
    ·have b1:decide (f < cv.u.lo)=false:=decide_eq_false c1
     by_cases c2:cv.u.hi < f
     ·have b2:decide (cv.u.hi < f)=true:=decide_eq_true c2
      have ki:inCB cv 1 f=false:=by unfold inCB;simp [c2]
      clear c1 c2
      have F0:=zH (F0.out.below (Below.refl _ _).drew F0.out.lt)
      have F1:=zH (F1.out.below (Below.refl _ _).drew F1.out.lt)
      have FR:Hid (W1.drew.ranges Tryz.prog 69 RI b W0.heap.size n D (fun z=>left z && !z.sameKey (key2 f f)) cnt1):=rng_drew FR.out
      have FG:Hid (w.grownBy W1.drew (some b)):=grown_drew FG.out
      have m0:=F0.out.c0
      have m1:=F0.out.c1
      have m2:=F0.out.c2
      have m3:=F0.out.c3
      have m4:=F1.out.c0
      have m5:=F1.out.c1
      refine wp_region_held_drew (S:=(fun w''=>w''.cell? ⟨w.heap.size,0,none⟩=some (I Z cv.l.lo)∧w''.cell? ⟨w.heap.size,1,none⟩=some (I Z cv.l.hi)∧w''.cell? ⟨w.heap.size,2,none⟩=some (I Z cv.u.lo)∧w''.cell? ⟨w.heap.size,3,none⟩=some (I Z cv.u.hi)∧w''.cell? ⟨fb,0,none⟩=some (I Z f)∧w''.cell? ⟨fb,1,none⟩=some (I Z f))) (by kernel_rfl) (by (try dsimp only);first | exact ⟨m0,m1,m2,m3,m4,m5⟩ | go_keep) (fun hHeld=>?_)
      obtain ⟨v_5,hw1⟩:∃ v_5,v_5=W1.drew:=⟨_,rfl⟩
      rw [← hw1] at F0 F1 FR FG hHeld ⊢
      clear hw1
      have m0:=F0.out.c0
      have m1:=F0.out.c1
      have m2:=F0.out.c2
      have m3:=F0.out.c3
      have m4:=F1.out.c0
      have m5:=F1.out.c1
      refine tkz 0 rfl ?_
      refine tkz 1 rfl ?_
      refine tkz 2 rfl ?_
      refine tkz 3 rfl ?_
      refine tkz 4 rfl ?_
      refine tkz 5 rfl ?_
      refine tkz 6 rfl ?_
      refine tkz 7 rfl ?_
      refine tkz 8 rfl ?_
      refine tkz 9 rfl ?_
      refine tkz 10 rfl ?_
      refine tkz 11 rfl ?_
      refine tkz 12 rfl ?_
      refine tkz 13 rfl ?_
      refine tkz 14 rfl ?_
      refine tkz 15 rfl ?_
      refine wpAnyH_done (by kernel_rfl) ?_ _
      go_wp2_with (first | (at_delete;refine wpList_delete_ranges _ rfl _ _ 187 69 rfl 2 lawM undT _ b W0.heap.size n _ _ _ rfl FR.out _ _ rfl hkey ?_;intro w2 cnt2 hrg2 hle hturn;go_frame) | fail)
      rw [strike_twice] at hrg2
      go_roundw
      case rel=>exact ⟨_,cnt2,_,hrg2,by rw [← mid_drop HS.out HE.out ki];exact HT.out.del HF.out.1 HF.out.2,F0.out.grown hturn.grown (by simp;omega),FG.out.andThen hturn.grown (fun j hj=>by cases hj;exact Or.inr rfl)⟩
      case measure=>rw [hrg2.left_eq,hrg.left_eq];omega
     ·have b2:decide (cv.u.hi < f)=false:=decide_eq_false c2
      have ki:inCB cv 1 f=true:=by unfold inCB;simp;omega
      clear c1 c2
      have F0:=zH (F0.out.below (Below.refl _ _).drew F0.out.lt)
      have F1:=zH (F1.out.below (Below.refl _ _).drew F1.out.lt)
      have FR:Hid (W1.drew.ranges Tryz.prog 69 RI b W0.heap.size n D (fun z=>left z && !z.sameKey (key2 f f)) cnt1):=rng_drew FR.out
      have FG:Hid (w.grownBy W1.drew (some b)):=grown_drew FG.out
      have m0:=F0.out.c0
      have m1:=F0.out.c1
      have m2:=F0.out.c2
      have m3:=F0.out.c3
      have m4:=F1.out.c0
      have m5:=F1.out.c1
      refine wp_region_held_drew (S:=(fun w''=>w''.cell? ⟨w.heap.size,0,none⟩=some (I Z cv.l.lo)∧w''.cell? ⟨w.heap.size,1,none⟩=some (I Z cv.l.hi)∧w''.cell? ⟨w.heap.size,2,none⟩=some (I Z cv.u.lo)∧w''.cell? ⟨w.heap.size,3,none⟩=some (I Z cv.u.hi)∧w''.cell? ⟨fb,0,none⟩=some (I Z f)∧w''.cell? ⟨fb,1,none⟩=some (I Z f))) (by kernel_rfl) (by (try dsimp only);first | exact ⟨m0,m1,m2,m3,m4,m5⟩ | go_keep) (fun hHeld=>?_)
      obtain ⟨v_6,hw1⟩:∃ v_6,v_6=W1.drew:=⟨_,rfl⟩
      rw [← hw1] at F0 F1 FR FG hHeld ⊢
      clear hw1
      have m0:=F0.out.c0
      have m1:=F0.out.c1
      have m2:=F0.out.c2
      have m3:=F0.out.c3
      have m4:=F1.out.c0
      have m5:=F1.out.c1
      refine tkz 0 rfl ?_
      refine tkz 1 rfl ?_
      refine tkz 2 rfl ?_
      refine tkz 3 rfl ?_
      refine tkz 4 rfl ?_
      refine tkz 5 rfl ?_
      refine tkz 6 rfl ?_
      refine tkz 7 rfl ?_
      refine tkz 8 rfl ?_
      refine tkz 9 rfl ?_
      refine tkz 10 rfl ?_
      refine tkz 11 rfl ?_
      refine tkz 12 rfl ?_
      refine tkz 13 rfl ?_
      refine tkz 14 rfl ?_
      refine tkz 15 rfl ?_
      refine wpAnyH_done (by kernel_rfl) ?_ _
      go_wp2_with fail
      go_roundw
      case rel=>exact ⟨_,cnt1,_,FR.out,by rw [mid_keep HS.out HE.out ki];exact HT.out,F0.out,FG.out⟩
      case measure=>rw [FR.out.left_eq,hrg.left_eq];exact hlt
theorem grown_set(w:World)(p:Addr)(v:Value):w.grownBy (w.setCell p v) (some p.block):=by
 refine ⟨rfl,rfl,rfl,by simp [World.setCell],fun i _ hne=>?_⟩
 exact Below.heap_setCell _ _ _ _ (fun e=>hne (by rw [e]))
theorem leftTo_any(b n:Nat)(S:Int→Option Int)(car:Int)(had:Sp)(hS:∀ f c,S f=some c→-1≤f∧f≤1000)(w:World)(hm:Held w b n S) :
  Calls Tryz.prog 153 #[.map (some b),I Z car,.agg #[I Z had.lo,I Z had.hi]] w fun e w'=>∃ g left,LeftI S car had left g∧(∀ kl,left kl=false)∧e=.returned (.agg #[I Z (keptS had g).lo,I Z (keptS had g).hi])∧Below w.heap.size w w':=by
 have HS:=zH hS
 clear hS
 have bl:b < w.heap.size:=hm.lt
 have F0:Hid (MW (((w.alloc (.cells #[I Z had.lo,I Z had.hi] 69)).alloc (.cells #[I Z 0,I Z 0] 69)).alloc (.cells #[I Z had.hi,I Z had.lo] 69)) w.heap.size had):=((MW.at_ w had _ _ rfl).alloc _).alloc _
 have F1:Hid (MW (((w.alloc (.cells #[I Z had.lo,I Z had.hi] 69)).alloc (.cells #[I Z 0,I Z 0] 69)).alloc (.cells #[I Z had.hi,I Z had.lo] 69)) (w.heap.size + 1) (⟨0,0⟩:Sp)):=(MW.at_ _ ⟨0,0⟩ _ _ (by simp)).alloc _
 have F2:Hid (MW (((w.alloc (.cells #[I Z had.lo,I Z had.hi] 69)).alloc (.cells #[I Z 0,I Z 0] 69)).alloc (.cells #[I Z had.hi,I Z had.lo] 69)) (w.heap.size + 2) (⟨had.hi,had.lo⟩:Sp)):=MW.at_ _ ⟨had.hi,had.lo⟩ _ _ (by simp)
 have FB:Hid (Below w.heap.size w (((w.alloc (.cells #[I Z had.lo,I Z had.hi] 69)).alloc (.cells #[I Z 0,I Z 0] 69)).alloc (.cells #[I Z had.hi,I Z had.lo] 69))):=(((Below.refl _ _).alloc (Nat.le_refl _) _).alloc (by simp) _).alloc (by simp;omega) _
 have es:(((w.alloc (.cells #[I Z had.lo,I Z had.hi] 69)).alloc (.cells #[I Z 0,I Z 0] 69)).alloc (.cells #[I Z had.hi,I Z had.lo] 69)).heap.size=w.heap.size + 3:=by simp
 obtain ⟨D,ho0,t0⟩:=((hm.alloc (.cells #[I Z had.lo,I Z had.hi] 69)).alloc (.cells #[I Z 0,I Z 0] 69)).alloc (.cells #[I Z had.hi,I Z had.lo] 69)
 have HO0:=zH ho0
 have HT:=zH t0
 clear ho0 t0
 obtain ⟨W0,hW0⟩:∃ W0,W0=(((w.alloc (.cells #[I Z had.lo,I Z had.hi] 69)).alloc (.cells #[I Z 0,I Z 0] 69)).alloc (.cells #[I Z had.hi,I Z had.lo] 69)):=⟨_,rfl⟩
 rw [← hW0] at F0 F1 F2 FB HO0 es
 have HES:=zH es
 clear es
 have HW0:=zH hW0
 clear hW0
 go_enter Tryz.func153,Tryz.ntmps153
 go_upto_region 2 with fail
 rw [← HW0.out]
 clear HW0
 go_wp2_with (first | (at_range;refine wpList_range_own _ rfl _ 187 rfl 69 2 lawM undT RI b n D rfl HO0.out ?_;intro w0 hrg0 hg0 hs0) | fail)
 have F0:Hid (MW w0 w.heap.size had):=F0.out.grown hg0 (by simp)
 have F1:Hid (MW w0 (w.heap.size + 1) (⟨0,0⟩:Sp)):=F1.out.grown hg0 (by simp)
 have F2:Hid (MW w0 (w.heap.size + 2) (⟨had.hi,had.lo⟩:Sp)):=F2.out.grown hg0 (by simp)
 have FB:Hid (Below w.heap.size w w0):=FB.out.grown hg0 FB.out.size (fun j hj=>by cases hj)
 go_frame
 go_loopw [9] (fun _ wr=>∃ (left:Lit→Bool) (cnt:Nat) (g:Sp),wr.ranges Tryz.prog 69 RI b W0.heap.size n D left cnt∧LeftI S car had left g∧MW wr w.heap.size had∧MW wr (w.heap.size + 1) (⟨0,0⟩:Sp)∧MW wr (w.heap.size + 2) g∧Below w.heap.size w wr) (fun _ wr=>wr.rangeLeft b W0.heap.size)
 case atStart=>exact ⟨_,_,_,hrg0,left_start HT.out car had,F0.out,F1.out,F2.out,FB.out⟩
 case round=>
  obtain ⟨left,cnt,g,hrg,hl,h0,h1,h2,h3⟩:=hrel
  clear hrg0 hg0 HO0
  have HG:=zH hl
  have F0:=zH h0
  have F1:=zH h1
  have F2:=zH h2
  have FB:=zH h3
  clear hl h0 h1 h2 h3
  go_wp2_with (first | (at_next;refine wpList_next_ranges _ rfl _ rfl 69 lawM RI (fun p:Int × Int=>.agg #[I Z p.1,I Z p.2]) (fun c:Int=>I Z c) (fun key kl hk=>by obtain ⟨a,b,e,_⟩:=keyOf_span_inv hk;exact ⟨(a,b),e⟩) (fun v y hv=>by obtain ⟨c,e,_⟩:=plainElem_int_inv undI hv;exact ⟨c,e⟩) b W0.heap.size n D left cnt rfl hrg ?_ ?_) | fail)
  ·intro _ hl0
   obtain ⟨x2_0,x2_1,y2_0,y2_1⟩:=F2.out
   by_cases c1:g.hi < g.lo
   ·have b1:decide (g.hi < g.lo)=true:=decide_eq_true c1
    have HV:Hid (Ending.returned (.agg #[I Z had.lo,I Z had.hi])=.returned (.agg #[I Z (keptS had g).lo,I Z (keptS had g).hi])):=by
     unfold keptS;rw [if_pos c1];exact rfl
    obtain ⟨x0_0,x0_1,y0_0,y0_1⟩:=F0.out
    obtain ⟨x1_0,x1_1,y1_0,y1_1⟩:=F1.out
    try dsimp only at x1_0 x1_1
    go_wp2_with fail
    change bodyPost _ _ _ _ _ (putM wr (w.heap.size + 1) had)
    obtain ⟨Wf,hWf⟩:∃ Wf,putM wr (w.heap.size + 1) had=Wf:=⟨_,rfl⟩
    have HRf:MW Wf (w.heap.size + 1) had:=hWf ▸ F1.out.put _
    have HBf:Below w.heap.size w Wf:=hWf ▸ below_putM FB.out (by omega) _
    rw [hWf]
    clear hWf
    obtain ⟨d0,d1,-,-⟩:=HRf
    exact bodyPost_ret (v:=.agg #[I Z had.lo,I Z had.hi]) (by simp [results,Tryz.results153,go_sem,d0,d1]) rfl ⟨g,_,HG.out,hl0,HV.out,HBf⟩
   ·have b1:decide (g.hi < g.lo)=false:=decide_eq_false c1
    have HV:Hid (Ending.returned (.agg #[I Z g.lo,I Z g.hi])=.returned (.agg #[I Z (keptS had g).lo,I Z (keptS had g).hi])):=by
     unfold keptS;rw [if_neg c1];exact rfl
    obtain ⟨x1_0,x1_1,y1_0,y1_1⟩:=F1.out
    try dsimp only at x1_0 x1_1
    go_wp2_with fail
    change bodyPost _ _ _ _ _ (putM wr (w.heap.size + 1) g)
    obtain ⟨Wf,hWf⟩:∃ Wf,putM wr (w.heap.size + 1) g=Wf:=⟨_,rfl⟩
    have HRf:MW Wf (w.heap.size + 1) g:=hWf ▸ F1.out.put _
    have HBf:Below w.heap.size w Wf:=hWf ▸ below_putM FB.out (by omega) _
    rw [hWf]
    clear hWf
    obtain ⟨d0,d1,-,-⟩:=HRf
    exact bodyPost_ret (v:=.agg #[I Z g.lo,I Z g.hi]) (by simp [results,Tryz.results153,go_sem,d0,d1]) rfl ⟨g,_,HG.out,hl0,HV.out,HBf⟩
  ·intro f f' c kl y1 y2 w1 cnt1 hkey hlk hv hat hrg1 hlt hg1 hs1 hen
   try dsimp only at hkey hv hen
   obtain ⟨ef,ek,eS,d1,d2⟩:=told_step HT.out hkey hv hat
   have ef2:=ef.symm
   clear ef
   subst ef2
   subst ek
   have HE:=zH eS
   have F0:Hid (MW w1 w.heap.size had):=F0.out.grown hg1 (by simp [HES.out])
   have F1:Hid (MW w1 (w.heap.size + 1) (⟨0,0⟩:Sp)):=F1.out.grown hg1 (by simp [HES.out])
   have F2:Hid (MW w1 (w.heap.size + 2) g):=F2.out.grown hg1 (by simp [HES.out])
   have FB:Hid (Below w.heap.size w w1):=FB.out.grown hg1 FB.out.size (fun j hj=>by cases hj;rw [HES.out];omega)
   have hsz:w.heap.size + 3 < w1.heap.size:=by rw [hs1,← HES.out];exact hrg.lt
   clear eS d1 d2 hv hat hlk hg1 hs1
   try dsimp only
   go_upto_region 5 with fail
   obtain ⟨fb,hfb⟩:∃ fb,fb=w1.heap.size:=⟨_,rfl⟩
   obtain ⟨W1,hW1⟩:∃ W1,W1=w1.alloc (.cells #[I Z f,I Z f] 69):=⟨_,rfl⟩
   have F0:Hid (MW W1 w.heap.size had):=by rw [hW1];exact F0.out.alloc _
   have F1:Hid (MW W1 (w.heap.size + 1) (⟨0,0⟩:Sp)):=by rw [hW1];exact F1.out.alloc _
   have F2:Hid (MW W1 (w.heap.size + 2) g):=by rw [hW1];exact F2.out.alloc _
   have F3:Hid (MW W1 fb (⟨f,f⟩:Sp)):=by rw [hW1];exact MW.at_ w1 ⟨f,f⟩ _ fb hfb
   have FR:Hid (W1.ranges Tryz.prog 69 RI b W0.heap.size n D (fun z=>left z && !z.sameKey (key2 f f)) cnt1):=by rw [hW1];exact hrg1.alloc _
   have FB:Hid (Below w.heap.size w W1):=by rw [hW1];exact FB.out.alloc FB.out.size _
   have lfb:w.heap.size + 3 < fb:=by rw [hfb];exact hsz
   rw [← hW1,← hfb]
   clear hW1 hfb hsz hrg1 hen
   by_cases cc:c=car
   ·have b0:(c == car)=true:=by simpa using cc
    obtain ⟨g2,hg2⟩:∃ g2,growS g f=g2:=⟨_,rfl⟩
    have H2:=zH hg2
    have HG2:Hid (LeftI S car had (fun z=>left z && !z.sameKey (key2 f f)) g2):=by rw [← hg2];exact left_grow HG.out HS.out (by rw [← cc];exact HE.out)
    clear hg2 cc
    obtain ⟨x2_0,x2_1,y2_0,y2_1⟩:=F2.out
    obtain ⟨x3_0,x3_1,y3_0,y3_1⟩:=F3.out
    try dsimp only at x3_0 x3_1
    go_wp2_with (go_at_call 179;refine (grown_any g f g2 H2.out _).mono ?_;rintro e w2 ⟨rfl,hb⟩;have F0:=zH (F0.out.below hb F0.out.lt);have F1:=zH (F1.out.below hb F1.out.lt);have F2:=zH (F2.out.below hb F2.out.lt);have FR:Hid (w2.ranges Tryz.prog 69 RI b W0.heap.size n D (fun z=>left z && !z.sameKey (key2 f f)) cnt1):=rng_below FR.out hb (rng_lt FR.out) FR.out.lt;have FB:=tB FB hb;clear hb;obtain ⟨x2_0,x2_1,y2_0,y2_1⟩:=F2.out)
    go_roundw
    case rel=>exact ⟨_,cnt1,g2,(FR.out.kept (grown_set _ _ _) (by simp;omega) (by simp [HES.out])).kept (grown_set _ _ _) (by simp;omega) (by simp [HES.out]),HG2.out,(F0.out.other (by omega)).other (by omega),(F1.out.other (by omega)).other (by omega),F2.out.put g2,(FB.out.setCell (by simp <;> omega) _).setCell (by simp <;> omega) _⟩
    case measure=>rw [((FR.out.kept (grown_set _ _ _) (by simp;omega) (by simp [HES.out])).kept (grown_set _ _ _) (by simp;omega) (by simp [HES.out])).left_eq,hrg.left_eq];exact hlt
   ·have b0:(c == car)=false:=by simpa using cc
    have HG2:Hid (LeftI S car had (fun z=>left z && !z.sameKey (key2 f f)) g):=left_pass HG.out HS.out HE.out cc
    clear cc
    go_wp2_with fail
    go_roundw
    case rel=>exact ⟨_,cnt1,g,FR.out,HG2.out,F0.out,F1.out,F2.out,FB.out⟩
    case measure=>rw [FR.out.left_eq,hrg.left_eq];exact hlt
end Go.Proofs.YteimojoicfjdjaaGreat
