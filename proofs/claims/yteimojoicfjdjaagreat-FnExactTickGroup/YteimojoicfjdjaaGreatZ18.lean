/- Parts of the proof: XCs, HouseP, Halve, Speed, Prof, XKd, QuP, PersG, PersA, PersH, TickP, PersAo, Or2, Or3, XOr, XKj, Ints. -/
import Derived.Test.YteimojoicfjdjaaGreatZ5
import Derived.Test.YteimojoicfjdjaaGreatZ6
import Derived.Test.YteimojoicfjdjaaGreatZ13
import Derived.Test.YteimojoicfjdjaaGreatZ14
import Derived.Test.YteimojoicfjdjaaGreatZ15
import Derived.Test.YteimojoicfjdjaaGreatZ16
import Derived.Test.YteimojoicfjdjaaGreatZ17
import Derived.Deep.QuietTactic
import Derived.BigQuiet
import Derived.Deep.Draws
import Derived.Deep.RegionHeld3
import Derived.BigGuardPart
import Derived.Below
import Derived.OwnWalk
import Derived.Laws.OwnMore
namespace Go.Proofs.YteimojoicfjdjaaGreat
open Value renaming int → I
open IntKind renaming i64 → Z
open Go.RowKit Pl Sx
set_option linter.unusedVariables false
set_option linter.unusedSimpArgs false
theorem l3Car_any(h:Hs)(o:h.Ok)(c:Cs)(w:World) :
  Calls Tryz.prog 101 #[.agg #[I Z h.fl,I Z h.gp,I Z h.ln,I Z h.rf,I Z h.sp,I Z h.pu,I Z h.br,I Z h.dr,I Z h.lv,I Z h.dO,I Z h.ld,I Z h.qu],.agg #[I Z c.pos,I Z c.vel,I Z c.door]] w fun e w'=>e=.returned (I Z (h.carC c))∧Below w.heap.size w w':=by
 refine calls_ok mo (L:=[eLow2,eHigh2,eIn]) Tryz.func101 (args:=[hv h,cv c]) (T:=(h.Ok)∧(h.Ok)∧cond (!(!(inB c.pos h.low h.high))) (cond (!(!(inB c.vel (IntKind.i64.wrap (0 - h.sp)) h.sp))) (cond (!(inB c.door (0:Int) h.dO)) (IsI 3 (h.carC c)) (cond (c.door != 0) (cond (c.vel != 0) (IsI 1 (h.carC c)) (IsI 0 (h.carC c))) (IsI 0 (h.carC c)))) (IsI 3 (h.carC c))) (IsI 3 (h.carC c))) (by kernel_rfl) ?_ w
 have A:=o.all
 repeat' first | exact o | refine if_b (fun _=>?_) (fun _=>?_) | refine iI ?_ | apply And.intro
 all_goals try simp (disch:=omega) only [w64] at *
 all_goals simp_all [Hs.carC,Hs.carR]
def eCar3:Ent Tryz.prog:=e2 kH kC 101 (fun h_ c_=>some (h_.Ok)) (fun h_ c_=>I Z (h_.carC c_)) fun h_ c_ p w=>l3Car_any h_ (p _ rfl) c_ w
theorem specCarFault_any(h:Hs)(c:Cs)(w:World) :
  Calls Tryz.prog 55 #[.agg #[I Z h.fl,I Z h.gp,I Z h.ln,I Z h.rf,I Z h.sp,I Z h.pu,I Z h.br,I Z h.dr,I Z h.lv,I Z h.dO,I Z h.ld,I Z h.qu],.agg #[I Z c.pos,I Z c.vel,I Z c.door]] w fun e w'=>e=.returned (I Z (h.car c))∧Below w.heap.size w w':=by
 refine calls_ok mo (L:=[eFault,eCar3]) Tryz.func55 (args:=[hv h,cv c]) (T:=cond (h.fault != 0) (IsI h.fault (h.car c)) ((h.Ok)∧IsI (h.carC c) (h.car c))) (by kernel_rfl) ?_ w
 unfold Hs.car
 refine if_b (fun e=>iI ?_) (fun e=>?_)
 ·simp_all
 ·have e':h.fault=0:=by simpa using e
  rw [if_pos e'];exact ⟨Hs.ok_of (Hs.fault_zero e').1,rfl⟩
def eCar:Ent Tryz.prog:=e2 kH kC 55 (fun h_ c_=>none) (fun h_ c_=>I Z (h_.car c_)) fun h_ c_ p w=>specCarFault_any h_ c_ w
theorem l3High_any(h:Hs)(o:h.Ok)(p v:Int)(p1:-100000000≤p)(p2:p≤100000000)(v1:-500≤v)(v2:v≤500)(w:World) :
  Calls Tryz.prog 57 #[.agg #[I Z h.fl,I Z h.gp,I Z h.ln,I Z h.rf,I Z h.sp,I Z h.pu,I Z h.br,I Z h.dr,I Z h.lv,I Z h.dO,I Z h.ld,I Z h.qu],I Z p,I Z v] w fun e w'=>e=.returned (I Z (h.hi p v))∧Below w.heap.size w w':=by
 refine calls_ok mo (L:=[eStop]) Tryz.func57 (args:=[hv h,I Z p,I Z v]) (T:=cond (decide (v > 0)) ((0≤v∧v≤2000∧1≤h.br∧h.br≤2000)∧IsI (IntKind.i64.wrap (p + (stopP v h.br))) (h.hi p v)) (IsI p (h.hi p v))) (by kernel_rfl) ?_ w
 have A:=o.all
 refine if_b (fun e=>?_) (fun e=>iI ?_)
 ·simp at e
  obtain ⟨s1,s2⟩:=stop_small v h.br (by omega) (by omega) (by omega)
  refine ⟨by omega,iI ?_⟩
  rw [w64 (by omega) (by omega)];unfold Hs.hi;rw [if_pos (by omega)]
 ·simp at e;unfold Hs.hi;rw [if_neg (by omega)]
def eHi:Ent Tryz.prog:=e3 kH kI kI 57 (fun h_ p_ v_=>some (h_.Ok∧(-100000000≤p_∧p_≤100000000)∧-500≤v_∧v_≤500)) (fun h_ p_ v_=>I Z (h_.hi p_ v_)) fun h_ p_ v_ p w=>have ⟨h1,h2,h3⟩:=p _ rfl;l3High_any h_ h1 p_ v_ h2.1 h2.2 h3.1 h3.2 w
theorem l3Low_any(h:Hs)(o:h.Ok)(p v:Int)(p1:-100000000≤p)(p2:p≤100000000)(v1:-500≤v)(v2:v≤500)(w:World) :
  Calls Tryz.prog 56 #[.agg #[I Z h.fl,I Z h.gp,I Z h.ln,I Z h.rf,I Z h.sp,I Z h.pu,I Z h.br,I Z h.dr,I Z h.lv,I Z h.dO,I Z h.ld,I Z h.qu],I Z p,I Z v] w fun e w'=>e=.returned (I Z (h.lo p v))∧Below w.heap.size w w':=by
 refine calls_ok mo (L:=[eStop]) Tryz.func56 (args:=[hv h,I Z p,I Z v]) (T:=cond (decide (v < 0)) ((0≤(IntKind.i64.wrap (0 - v))∧(IntKind.i64.wrap (0 - v))≤2000∧1≤h.br∧h.br≤2000)∧IsI (IntKind.i64.wrap (p - (stopP (IntKind.i64.wrap (0 - v)) h.br))) (h.lo p v)) (IsI p (h.lo p v))) (by kernel_rfl) ?_ w
 have A:=o.all
 refine if_b (fun e=>?_) (fun e=>iI ?_)
 ·simp at e
  obtain ⟨s1,s2⟩:=stop_small (-v) h.br (by omega) (by omega) (by omega)
  have e1:IntKind.i64.wrap (0 - v)=-v:=by rw [w64 (by omega) (by omega)];omega
  rw [e1]
  refine ⟨by omega,iI ?_⟩
  rw [w64 (by omega) (by omega)];unfold Hs.lo;rw [if_pos (by omega)]
 ·simp at e;unfold Hs.lo;rw [if_neg (by omega)]
def eLo:Ent Tryz.prog:=e3 kH kI kI 56 (fun h_ p_ v_=>some (h_.Ok∧(-100000000≤p_∧p_≤100000000)∧-500≤v_∧v_≤500)) (fun h_ p_ v_=>I Z (h_.lo p_ v_)) fun h_ p_ v_ p w=>have ⟨h1,h2,h3⟩:=p _ rfl;l3Low_any h_ h1 p_ v_ h2.1 h2.2 h3.1 h3.2 w
theorem specShaftFault_any(h:Hs)(s:Sh)(w:World) :
  Calls Tryz.prog 34 #[.agg #[I Z h.fl,I Z h.gp,I Z h.ln,I Z h.rf,I Z h.sp,I Z h.pu,I Z h.br,I Z h.dr,I Z h.lv,I Z h.dO,I Z h.ld,I Z h.qu],.agg #[I Z s.lo.pos,I Z s.lo.vel,I Z s.lo.door,I Z s.up.pos,I Z s.up.vel,I Z s.up.door]] w fun e w'=>e=.returned (I Z (h.shaft s))∧Below w.heap.size w w':=by
 refine calls_ok mo (L:=[eCar,eLo,eHi,eHigh2,eLow2]) Tryz.func34 (args:=[hv h,sv s]) (T:=cond ((h.car s.lo) != 0) (IsI (h.car s.lo) (h.shaft s)) (cond ((h.car s.up) != 0) (IsI (h.car s.up) (h.shaft s)) ((h.Ok∧(-100000000≤s.up.pos∧s.up.pos≤100000000)∧-500≤s.up.vel∧s.up.vel≤500)∧(h.Ok∧(-100000000≤s.lo.pos∧s.lo.pos≤100000000)∧-500≤s.lo.vel∧s.lo.vel≤500)∧cond (decide ((IntKind.i64.wrap ((h.lo s.up.pos s.up.vel) - (h.hi s.lo.pos s.lo.vel))) < h.ln)) (IsI 1 (h.shaft s)) ((h.Ok∧(-100000000≤s.up.pos∧s.up.pos≤100000000)∧-500≤s.up.vel∧s.up.vel≤500)∧(h.Ok)∧cond (!(decide ((h.hi s.up.pos s.up.vel) > h.high))) ((h.Ok∧(-100000000≤s.lo.pos∧s.lo.pos≤100000000)∧-500≤s.lo.vel∧s.lo.vel≤500)∧(h.Ok)∧cond (decide ((h.lo s.lo.pos s.lo.vel) < h.low)) (IsI 3 (h.shaft s)) (IsI 0 (h.shaft s))) (IsI 3 (h.shaft s)))))) (by kernel_rfl) ?_ w
 unfold Hs.shaft
 refine if_b (fun e=>iI ?_) (fun e=>if_b (fun f=>iI ?_) (fun f=>?_))
 ·simp_all
 ·simp_all
 simp only [bne_eq_false_iff_eq] at e f
 have a:=Hs.car_zero e;have b:=Hs.car_zero f
 have A:=a.all;have B:=b.all
 have o:=a.ok
 rw [if_pos e,if_pos f]
 repeat' first | exact o | omega | refine if_b (fun _=>?_) (fun _=>?_) | refine iI ?_ | apply And.intro
 all_goals try simp (disch:=omega) only [w64] at *
 all_goals simp_all [Hs.shaftC]
 all_goals omega
end Go.Proofs.YteimojoicfjdjaaGreat
namespace Go.Proofs.YteimojoicfjdjaaGreat
set_option maxHeartbeats 4000000
open Value renaming int → I
open IntKind renaming i64 → Z
open Go.RowKit Pl
theorem l1Abs_any(a:Int)(h1:-9223372036854775807≤a)(h2:a≤9223372036854775807)(w:World) :
  Calls Tryz.prog 157 #[I Z a] w fun e w'=>e=.returned (I Z (absI a))∧w'=w:=by
 by_cases h:a < 0
 ·have e:Hid (absI a=-a):=by unfold absI;rw [if_pos h];exact rfl
  go_enter Tryz.func157,Tryz.ntmps157
  go_wp2
  go_ret
  exact ⟨ret_int e.out.symm,rfl⟩
 ·have e:Hid (absI a=a):=by unfold absI;rw [if_neg h];exact rfl
  go_enter Tryz.func157,Tryz.ntmps157
  go_wp2
  go_ret
  exact ⟨ret_int e.out.symm,rfl⟩
theorem specNear_any(h:Hs)(o:h.Ok)(p:Int)(p1:-4611686018427387904≤p)(p2:p≤4611686018427387904)(w:World) :
  Calls Tryz.prog 156 #[.agg #[I Z h.fl,I Z h.gp,I Z h.ln,I Z h.rf,I Z h.sp,I Z h.pu,I Z h.br,I Z h.dr,I Z h.lv,I Z h.dO,I Z h.ld,I Z h.qu],I Z p] w fun e w'=>∃ r,h.NearTo p (h.fl + 1) r∧e=.returned (I Z r)∧Below w.heap.size w w':=by
 have l1:=o.fl1;have l2:=o.fl2
 have HO:Hid h.Ok:=o
 have HH:Hid (HAt (w.alloc (.cells #[I Z h.fl,I Z h.gp,I Z h.ln,I Z h.rf,I Z h.sp,I Z h.pu,I Z h.br,I Z h.dr,I Z h.lv,I Z h.dO,I Z h.ld,I Z h.qu] 31)) w.heap.size h):=HAt.new w h _
 have HB:Hid (Below w.heap.size w (w.alloc (.cells #[I Z h.fl,I Z h.gp,I Z h.ln,I Z h.rf,I Z h.sp,I Z h.pu,I Z h.br,I Z h.dr,I Z h.lv,I Z h.dO,I Z h.ld,I Z h.qu] 31))):=(Below.refl _ _).alloc (Nat.le_refl _) _
 clear o
 go_enter Tryz.func156,Tryz.ntmps156
 go_wp2
 go_loopw [5,6] (fun b f wr=>∃ r n:Int,b=I Z r∧f=I Z n∧0≤n∧n≤h.fl + 1∧h.NearTo p n r∧HAt wr w.heap.size h∧Below w.heap.size w wr) (fun _ f _=>(h.fl + 1 - intOf f).toNat)
 case atStart=>exact ⟨-1,0,rfl,rfl,by omega,by omega,Hs.NearTo.start h p,HH.out,HB.out⟩
 case round=>
  obtain ⟨r,n,rfl,rfl,n1,n2,hnear,hat,hbel⟩:=hrel
  have r1:=hnear.lo
  have r2:=hnear.hi
  have HN:Hid (h.NearTo p n r):=hnear
  have HH:Hid (HAt wr w.heap.size h):=hat
  have HB:Hid (Below w.heap.size w wr):=hbel
  obtain ⟨q0,q1,q2,q3,q4,q5,q6,q7,q8,q9,q10,q11⟩:=hat
  clear hnear hbel
  by_cases hlt:n≤h.fl
  ·obtain ⟨v1,v2⟩:=HO.out.level_bd n (by omega) (by omega)
   obtain ⟨v3,v4⟩:=HO.out.level_bd r (by omega) (by omega)
   have e1:IntKind.i64.wrap (p - h.level n)=p - h.level n:=IntWalk.i64_in _ (by omega)
   have e2:IntKind.i64.wrap (p - h.level r)=p - h.level r:=IntWalk.i64_in _ (by omega)
   have HH:=zH (HH.out.drew)
   have HB:=zH (HB.out.drew)
   by_cases hd:absI (p - h.level n) < absI (p - h.level r)
   ·have hd':decide (absI (p - h.level n) < absI (p - h.level r))=true:=decide_eq_true hd
    have HD:Hid (h.dist p n < h.dist p r):=hd
    clear hd
    go_wp2_with fail
    go_region_held3 (fun w''=>w''.cell? ⟨w.heap.size,0,none⟩=some (I Z h.fl)∧w''.cell? ⟨w.heap.size,1,none⟩=some (I Z h.gp)∧w''.cell? ⟨w.heap.size,2,none⟩=some (I Z h.ln)∧w''.cell? ⟨w.heap.size,3,none⟩=some (I Z h.rf)∧w''.cell? ⟨w.heap.size,4,none⟩=some (I Z h.sp)∧w''.cell? ⟨w.heap.size,5,none⟩=some (I Z h.pu)∧w''.cell? ⟨w.heap.size,6,none⟩=some (I Z h.br)∧w''.cell? ⟨w.heap.size,7,none⟩=some (I Z h.dr)∧w''.cell? ⟨w.heap.size,8,none⟩=some (I Z h.lv)∧w''.cell? ⟨w.heap.size,9,none⟩=some (I Z h.dO)∧w''.cell? ⟨w.heap.size,10,none⟩=some (I Z h.ld)∧w''.cell? ⟨w.heap.size,11,none⟩=some (I Z h.qu)) (go_keep) (first | (go_at_call 102;refine (specLevel_below h HO.out _ (by omega) (by omega) _).mono ?_;rintro e w1 ⟨rfl,hb⟩;have HH:=zH (HH.out.below hb HH.out.lt);have HB:=zH (HB.out.trans (hb.mono HB.out.size));obtain ⟨q0,q1,q2,q3,q4,q5,q6,q7,q8,q9,q10,q11⟩:=HH.out;clear hb) | (go_at_call 157;refine (l1Abs_any _ (by omega) (by omega) _).mono ?_;rintro e w2 ⟨rfl,hw⟩;obtain rfl:=hw.symm))
    go_wp2
    go_roundw
    case rel=>exact ⟨n,n + 1,rfl,rfl,by omega,by omega,HN.out.take n1 HD.out,HH.out,HB.out⟩
    case measure=>simp [intOf];omega
   ·have hd':decide (absI (p - h.level n) < absI (p - h.level r))=false:=decide_eq_false hd
    have HD:Hid (¬ h.dist p n < h.dist p r):=hd
    clear hd
    go_wp2_with fail
    go_region_held3 (fun w''=>w''.cell? ⟨w.heap.size,0,none⟩=some (I Z h.fl)∧w''.cell? ⟨w.heap.size,1,none⟩=some (I Z h.gp)∧w''.cell? ⟨w.heap.size,2,none⟩=some (I Z h.ln)∧w''.cell? ⟨w.heap.size,3,none⟩=some (I Z h.rf)∧w''.cell? ⟨w.heap.size,4,none⟩=some (I Z h.sp)∧w''.cell? ⟨w.heap.size,5,none⟩=some (I Z h.pu)∧w''.cell? ⟨w.heap.size,6,none⟩=some (I Z h.br)∧w''.cell? ⟨w.heap.size,7,none⟩=some (I Z h.dr)∧w''.cell? ⟨w.heap.size,8,none⟩=some (I Z h.lv)∧w''.cell? ⟨w.heap.size,9,none⟩=some (I Z h.dO)∧w''.cell? ⟨w.heap.size,10,none⟩=some (I Z h.ld)∧w''.cell? ⟨w.heap.size,11,none⟩=some (I Z h.qu)) (go_keep) (first | (go_at_call 102;refine (specLevel_below h HO.out _ (by omega) (by omega) _).mono ?_;rintro e w1 ⟨rfl,hb⟩;have HH:=zH (HH.out.below hb HH.out.lt);have HB:=zH (HB.out.trans (hb.mono HB.out.size));obtain ⟨q0,q1,q2,q3,q4,q5,q6,q7,q8,q9,q10,q11⟩:=HH.out;clear hb) | (go_at_call 157;refine (l1Abs_any _ (by omega) (by omega) _).mono ?_;rintro e w2 ⟨rfl,hw⟩;obtain rfl:=hw.symm))
    go_wp2
    go_roundw
    case rel=>exact ⟨r,n + 1,rfl,rfl,by omega,by omega,HN.out.stay (by have:=HD.out;omega),HH.out,HB.out⟩
    case measure=>simp [intOf];omega
  ·obtain rfl:n=h.fl + 1:=by omega
   go_wp2
   go_ret
   exact ⟨r,HN.out,rfl,HB.out⟩
end Go.Proofs.YteimojoicfjdjaaGreat
namespace Go.Proofs.YteimojoicfjdjaaGreat.Pl
def Falls(f:Int→Bool)(top:Int):Prop:=∀ x y,0≤x→x≤y→y≤top→f y=true→f x=true
def Best(f:Int→Bool)(top r:Int):Prop:=0≤r∧r≤top∧(r=0 ∨ f r=true)∧∀ x,r < x→x≤top→f x=false
def Within(f:Int→Bool)(top lo hi:Int):Prop:=0≤lo∧lo≤hi∧hi≤top∧(lo=0 ∨ f lo=true)∧∀ x,hi < x→x≤top→f x=false
theorem Best.one{f:Int→Bool}{top r s:Int}(h:Best f top r)(g:Best f top s):r=s:=by
 obtain ⟨h1,h2,h3,h4⟩:=h
 obtain ⟨g1,g2,g3,g4⟩:=g
 by_cases hlt:r < s
 ·have:=h4 s hlt g2
  rcases g3 with g3 | g3
  ·omega
  ·rw [this] at g3;cases g3
 ·by_cases hgt:s < r
  ·have:=g4 r hgt h2
   rcases h3 with h3 | h3
   ·omega
   ·rw [this] at h3;cases h3
  ·omega
theorem Within.start(f:Int→Bool){top:Int}(h:0≤top):Within f top 0 top:=⟨by omega,h,by omega,Or.inl rfl,fun x h1 h2=>by omega⟩
theorem Within.done{f:Int→Bool}{top lo hi:Int}(h:Within f top lo hi)(hge:¬ lo < hi):Best f top lo:=by
 obtain ⟨h1,h2,h3,h4,h5⟩:=h
 obtain rfl:lo=hi:=by omega
 exact ⟨h1,h3,h4,h5⟩
theorem Within.yes{f:Int→Bool}{top lo hi m:Int}(h:Within f top lo hi)(h1:lo < m)(h2:m≤hi)(hf:f m=true):Within f top m hi:=by
 obtain ⟨g1,g2,g3,g4,g5⟩:=h
 exact ⟨by omega,h2,g3,Or.inr hf,g5⟩
theorem Within.no{f:Int→Bool}{top lo hi m:Int}(hfall:Falls f top)(h:Within f top lo hi)(h1:lo < m)(h2:m≤hi)(hf:f m=false):Within f top lo (m - 1):=by
 obtain ⟨g1,g2,g3,g4,g5⟩:=h
 refine ⟨g1,by omega,by omega,g4,fun x hx hx2=>?_⟩
 cases hfx:f x with
 | false=>rfl
 | true=>have:=hfall m x (by omega) (by omega) hx2 hfx;rw [hf] at this;cases this
end Go.Proofs.YteimojoicfjdjaaGreat.Pl
namespace Go.Proofs.YteimojoicfjdjaaGreat
open Value renaming int → I
open IntKind renaming i64 → Z
open Go.RowKit Pl
def spB(path b s:Int):Bool:=decide (s + stopP s b≤path)
theorem spB_falls(path b:Int)(hb:1≤b)(top:Int):Falls (spB path b) top:=by
 intro x y h0 h1 _ h3
 unfold spB at *
 have h3:y + stopP y b≤path:=of_decide_eq_true h3
 have:=stop_le x y b h0 h1 hb
 exact decide_eq_true (by omega)
theorem stopP_bd(s b:Int)(h0:0≤s)(h1:s≤2000)(hb:1≤b):-4002000≤stopP s b∧stopP s b≤4000000:=by
 obtain ⟨b1,b2,b3,b4,b5,b6,b7⟩:=stop_bds s b _ h0 h1 hb rfl
 unfold stopP;omega
theorem speedFits_any(path b m:Int)(a a':Addr)(h0:0≤m)(h1:m≤2000)(hb:1≤b)(hb2:b≤2000)(w:World)(hc:w.cell? a=some (I Z b))(hc':w.cell? a'=some (I Z path)) :
  Calls Tryz.prog 213 #[I Z m,.pointer (some a),.pointer (some a')] w fun e w'=>e=.returned (.bool (spB path b m))∧∃ k,w'=w.drewN k:=by
 have hp:=stopP_bd m b h0 h1 hb
 go_enter Tryz.func213,Tryz.ntmps213
 go_wp2_with fail
 go_quiet ((go_at_call 165;exact Calls.quiet_of_same (pathToStop_any _ _ h0 h1 hb hb2 _)))
 go_wp2
 go_ret
 exact ⟨rfl,_,rfl⟩
theorem greatestFit_speed(path b:Int)(hb:1≤b)(hb2:b≤2000)(a a':Addr)(w:World)(hc:w.cell? a=some (I Z b))(hc':w.cell? a'=some (I Z path)) :
  Calls Tryz.prog 212 #[I Z 2000,.func (.func 213) #[] #[.pointer (some a),.pointer (some a')]] w fun e w'=>∃ r,e=.returned (I Z r)∧Best (spB path b) 2000 r∧∃ k,w'=w.drewN k:=by
 go_enter Tryz.func212,Tryz.ntmps212
 go_wp2
 go_loopw [5,6] (fun l h wr=>∃ (lo hi:Int) (k:Nat),l=I Z lo∧h=I Z hi∧wr=w.drewN k∧Within (spB path b) 2000 lo hi) (fun l h _=>(intOf h - intOf l).toNat)
 case atStart=>exact ⟨0,2000,0,rfl,rfl,rfl,Within.start _ (by omega)⟩
 case round=>
  obtain ⟨lo,hi,k,rfl,rfl,rfl,hin⟩:=hrel
  have h1:0≤lo:=hin.1
  have h2:hi≤2000:=hin.2.2.1
  by_cases hlt:lo < hi
  ·have HF:Hid (Falls (spB path b) 2000):=spB_falls path b hb _
   cases hf:spB path b (hi - (hi - lo) / 2) with
   | true=>
    go_wp2_with (go_at_call 213;refine (speedFits_any path b _ a a' (by omega) (by omega) hb hb2 _ (by simpa using hc) (by simpa using hc')).mono ?_;rintro e w' ⟨rfl,j,rfl⟩)
    go_roundw
    case rel=>exact ⟨_,hi,_,rfl,rfl,rfl,hin.yes (by omega) (by omega) hf⟩
    case measure=>simp [intOf];omega
   | false=>
    go_wp2_with (go_at_call 213;refine (speedFits_any path b _ a a' (by omega) (by omega) hb hb2 _ (by simpa using hc) (by simpa using hc')).mono ?_;rintro e w' ⟨rfl,j,rfl⟩)
    go_roundw
    case rel=>exact ⟨lo,_,_,rfl,rfl,rfl,Within.no HF.out hin (by omega) (by omega) hf⟩
    case measure=>simp [intOf];omega
  ·go_wp2
   go_ret
   exact ⟨lo,rfl,hin.done (by omega),k,rfl⟩
theorem grown_drewN{W w:World}{k:Nat}(h:Grown W w):Grown W (w.drewN k):=h
theorem box_fst(w:World)(x y z t:Value)(T T':TypeId):(((w.alloc (.cells #[x] T)).alloc (.cells #[y] T)).alloc (.cells #[z,t] T')).cell? ⟨w.heap.size,0,none⟩=some x:=by
 rw [World.cell?_alloc_past _ _ _ (by simp;omega),World.cell?_alloc_past _ _ _ (by simp)];simp
theorem box_snd(w:World)(x y z t:Value)(T T':TypeId):(((w.alloc (.cells #[x] T)).alloc (.cells #[y] T)).alloc (.cells #[z,t] T')).cell? ⟨w.heap.size + 1,0,none⟩=some y:=by
 rw [World.cell?_alloc_past _ _ _ (by simp),World.cell?_alloc_at _ _ _ _ (by simp)];simp
theorem implSpeedFor_in(p b:Int)(h1:0≤p)(h2:p≤1000000000000000)(h3:1≤b)(h4:b≤2000)(w:World) :
  Calls Tryz.prog 211 #[I Z p,I Z b] w fun e w'=>∃ r,Best (spB p b) 2000 r∧e=.returned (.agg #[I Z 0,I Z r])∧Grown w w'∧Below w.heap.size w w':=by
 have i1:inB p 0 1000000000000000=true:=inB_yes h1 h2
 have i2:inB b 1 2000=true:=inB_yes h3 h4
 go_enter Tryz.func211,Tryz.ntmps211
 go_wp2_with (first | (go_at_call 23;refine (isWithin_any _ _ _ _).mono ?_;rintro e w' ⟨rfl,rfl⟩) | (go_at_call 212;refine (greatestFit_speed p b h3 h4 _ _ _ (box_snd _ _ _ _ _ _ _) (box_fst _ _ _ _ _ _ _)).mono ?_;rintro e w' ⟨r,rfl,hb,k,rfl⟩))
 exact bodyPost_ret (v:=.agg #[I Z 0,I Z r]) (by simp [results,Tryz.results211,go_sem]) rfl ⟨r,hb,rfl,((grown_drewN ((((Grown.refl _).alloc _ _).alloc _ _).alloc _ _)).setCell (by simp;omega) _).setCell (by simp;omega) _,((below_drewN ((((Below.refl _ _).alloc (Nat.le_refl _) _).alloc (by simp) _).alloc (by simp;omega) _) k).setCell (by simp;omega) _).setCell (by simp;omega) _⟩
theorem l1Speed_any(p b:Int)(hb:1≤b)(hb2:b≤2000)(w:World) :
  Calls Tryz.prog 189 #[I Z p,I Z b] w fun e w'=>∃ r,e=.returned (I Z r)∧Best (spB p b) 2000 r∧w'=w:=by
 go_enter Tryz.func189,Tryz.ntmps189
 go_wp2
 go_loop [5,6] (fun l h=>∃ lo hi:Int,l=I Z lo∧h=I Z hi∧Within (spB p b) 2000 lo hi) (fun l h=>(intOf h - intOf l).toNat)
 case atStart=>exact ⟨0,2000,rfl,rfl,Within.start _ (by omega)⟩
 case round=>
  obtain ⟨lo,hi,rfl,rfl,hin⟩:=hrel
  have h1:0≤lo:=hin.1
  have h2:hi≤2000:=hin.2.2.1
  by_cases hlt:lo < hi
  ·have HF:Hid (Falls (spB p b) 2000):=spB_falls p b hb _
   have hp:=stopP_bd ((lo + hi + 1) / 2) b (by omega) (by omega) hb
   by_cases hf:(lo + hi + 1) / 2 + stopP ((lo + hi + 1) / 2) b≤p
   ·have HQ:Hid (spB p b ((lo + hi + 1) / 2)=true):=decide_eq_true hf
    go_wp2_with (go_at_call 100;refine (l1Stop_any _ _ (by omega) (by omega) hb hb2 _).mono ?_;rintro e w' ⟨rfl,rfl⟩)
    go_round
    case rel=>exact ⟨_,hi,rfl,rfl,hin.yes (by omega) (by omega) HQ.out⟩
    case measure=>simp [intOf];omega
   ·have HQ:Hid (spB p b ((lo + hi + 1) / 2)=false):=decide_eq_false hf
    go_wp2_with (go_at_call 100;refine (l1Stop_any _ _ (by omega) (by omega) hb hb2 _).mono ?_;rintro e w' ⟨rfl,rfl⟩)
    go_round
    case rel=>exact ⟨lo,_,rfl,rfl,Within.no HF.out hin (by omega) (by omega) HQ.out⟩
    case measure=>simp [intOf];omega
  ·go_wp2
   go_ret
   exact ⟨lo,rfl,hin.done (by omega),rfl⟩
end Go.Proofs.YteimojoicfjdjaaGreat
namespace Go.Proofs.YteimojoicfjdjaaGreat
open Go.RowKit Pl
def bestN(f:Int→Bool):Nat→Int
 | 0=>0
 | n + 1=>if f (n + 1)=true then n + 1 else bestN f n
theorem bestN_best(f:Int→Bool)(n:Nat):Best f n (bestN f n):=by
 induction n with
 | zero=>exact ⟨Int.le_refl _,Int.le_refl _,Or.inl rfl,fun x h1 h2=>by simp [bestN] at h1 h2;omega⟩
 | succ n ih=>
  unfold bestN
  by_cases h:f (n + 1)=true
  ·rw [if_pos h]
   exact ⟨by omega,by omega,Or.inr h,fun x h1 h2=>by omega⟩
  ·rw [if_neg h]
   obtain ⟨a,b,c,d⟩:=ih
   refine ⟨a,by omega,c,fun x h1 h2=>?_⟩
   by_cases e:x=n + 1
   ·subst e;simpa using h
   ·exact d x h1 (by omega)
def speedP(p b:Int):Int:=bestN (spB p b) 2000
theorem speedP_of{p b r:Int}(h:Best (spB p b) 2000 r):speedP p b=r:=(bestN_best (spB p b) 2000).one h
theorem speedP_bd(p b:Int):0≤speedP p b∧speedP p b≤2000:=by
 obtain ⟨a,b,_,_⟩:=bestN_best (spB p b) 2000
 exact ⟨a,b⟩
def Hs.want(h:Hs)(v p:Int):Int:=min (v + h.pu) (min h.sp (speedP p h.pu))
def Hs.upP(h:Hs)(v p:Int):Int:=clip h.pu (max (Hs.want h v p) (v - h.pu) - v)
def Hs.forC(h:Hs)(c:Cs)(f:Int):Cm:=
 if absI (h.level f - c.pos)≤h.lv∧absI c.vel≤h.br then ⟨0,true,false⟩
 else if h.level f - c.pos < 0 then ⟨-(Hs.upP h (-c.vel) (-(h.level f - c.pos))),false,false⟩
 else ⟨Hs.upP h c.vel (h.level f - c.pos),false,false⟩
def Hs.cmdFor(h:Hs)(c:Cs)(f:Int):Cm:=if h.car c=0∧inB f (-1) h.fl=true∧c.door=0 then Hs.forC h c f else ⟨0,false,false⟩
theorem Hs.upP_bd{h:Hs}(o:h.Ok)(v p:Int):-h.pu≤Hs.upP h v p∧Hs.upP h v p≤h.pu:=by
 have p1:=o.pu1
 exact clip_bd h.pu _ (by omega)
def isCmd(w:World)(x:Cm)(e:Ending)(w':World):Prop:=e=.returned (.agg #[.int .i64 x.push,.bool x.brk,.bool x.opn])∧Below w.heap.size w w'
end Go.Proofs.YteimojoicfjdjaaGreat
namespace Go.Proofs.YteimojoicfjdjaaGreat
open Go.RowKit Pl Sx
abbrev mv(x:Sp):Value:=.agg #[.int .i64 x.lo,.int .i64 x.hi]
def pM:Value→Option Sp
 | .agg c=>match c.toList with
  | [.int .i64 a,.int .i64 b]=>some ⟨a,b⟩
  | _=>none
 | _=>none
def kM:Kd Sp:=⟨pM,mv,fun x a h=>by
 unfold pM at h
 split at h
 ·rename_i c
  split at h
  ·rename_i e
   simp only [Option.some.injEq] at h
   subst h
   exact congrArg Value.agg (Array.ext' e)
  ·cases h
 ·cases h⟩
abbrev nv(x:Ss):Value:=.agg #[.int .i64 x.l.lo,.int .i64 x.l.hi,.int .i64 x.u.lo,.int .i64 x.u.hi]
def pN:Value→Option Ss
 | .agg c=>match c.toList with
  | [.int .i64 a,.int .i64 b,.int .i64 c,.int .i64 d]=>some ⟨⟨a,b⟩,⟨c,d⟩⟩
  | _=>none
 | _=>none
def kN:Kd Ss:=⟨pN,nv,fun x a h=>by
 unfold pN at h
 split at h
 ·rename_i c
  split at h
  ·rename_i e
   simp only [Option.some.injEq] at h
   subst h
   exact congrArg Value.agg (Array.ext' e)
  ·cases h
 ·cases h⟩
end Go.Proofs.YteimojoicfjdjaaGreat
namespace Go.Proofs.YteimojoicfjdjaaGreat
open Go.RowKit Pl
set_option linter.unusedSimpArgs false
set_option linter.unusedVariables false
def doorB(d:Dk):Bool:=d.sh.lo.door == 0 && d.sh.up.door == 0
def used(ps:List Pe):Int:=(cnt 0 (-1) 0 ps:Int) + (cnt 1 (-1) 0 ps:Int)
def quietB(ds:List Dk)(ps:List Pe):Bool:=ds.all doorB && decide (used ps=0)
def Gr.quiet(g:Gr):Bool:=decide (Gr.fault g=0) && quietB g.ds g.led.ps
def Gr.bound(g:Gr):Int × Int:=if Gr.fault g=0 then (0,(2 * used g.led.ps + 2) * g.h.serve) else (Gr.fault g,0)
theorem Gr.fault_parts{g:Gr}(e:Gr.fault g=0):g.h.fault=0∧(1≤(g.ds.length:Int)∧(g.ds.length:Int)≤3)∧Hs.decks g.h g.ds=0∧Hs.led g.h g.led=0∧awayB g.ds.length g.led.ps=false∧0≤g.tk∧g.tk≤1000000000000000:=by
 unfold Gr.fault at e
 split at e
 case isFalse c=>exact absurd e c
 case isTrue c=>
  unfold Gr.faultC at e
  split at e
  case isFalse=>cases e
  case isTrue c1=>
   split at e
   case isFalse z=>exact absurd e z
   case isTrue c2=>
    split at e
    case isFalse z=>exact absurd e z
    case isTrue c3=>
     split at e
     case isTrue=>cases e
     case isFalse c4=>
      split at e
      case isFalse=>cases e
      case isTrue c5=>exact ⟨c,inB_iff.1 c1,c2,c3,by simpa using c4,(inB_iff.1 c5).1,(inB_iff.1 c5).2⟩
end Go.Proofs.YteimojoicfjdjaaGreat
namespace Go.Proofs.YteimojoicfjdjaaGreat
set_option maxRecDepth 20000
set_option maxHeartbeats 16000000
open Go.RowKit Pl
set_option linter.unusedSimpArgs false
set_option linter.unusedVariables false
theorem LW.grown{W w:World}{b:Nat}{nx:Int}{v:Value}{row:Option Nat}(a:LW W b nx v)(hg:W.grownBy w row)(hne:some b ≠ row):LW w b nx v:=
 a.of (fun o=>World.cell?_of_block (w:=W) (hg.block b a.lt hne)) (fun o=>World.frozen?_of_block (w:=W) (hg.block b a.lt hne))
theorem news_at{w:World}{b o:Nat}{l:List Pe}(h:∀ i p,l[i]? = some p→P7 w b (o + i * 7) p):∀ j u,(flat l)[j]? = some u→w.cell? ((⟨b,o,none⟩:Addr).add j)=some u:=by
 intro j u hu
 have hj:j < l.length * 7:=by
  rw [← flat_length]
  exact (List.getElem?_eq_some_iff.1 hu).1
 have e:j=j / 7 * 7 + j % 7:=by omega
 have h3:j % 7 < 7:=Nat.mod_lt _ (by omega)
 obtain ⟨p,hp⟩:∃ p,l[j / 7]? = some p:=⟨_,List.getElem?_eq_getElem (by omega)⟩
 have h2:=flat_get hp h3
 rw [← e,hu] at h2
 obtain ⟨c0,c1,c2,c3,c4,c5,c6⟩:=h (j / 7) p hp
 have ea:(⟨b,o,none⟩:Addr).add j=⟨b,o + j,none⟩:=by simp [Addr.add]
 rw [ea]
 have ej:o + j=o + j / 7 * 7 + j % 7:=by omega
 rw [ej,h2]
 have:j % 7=0 ∨ j % 7=1 ∨ j % 7=2 ∨ j % 7=3 ∨ j % 7=4 ∨ j % 7=5 ∨ j % 7=6:=by omega
 rcases this with q | q | q | q | q | q | q <;> rw [q]
 ·exact c0
 ·exact c1
 ·exact c2
 ·exact c3
 ·exact c4
 ·exact c5
 ·exact c6
theorem own_empty(w:World)(B:Nat)(hB:B≤w.heap.size):Own (w.alloc (.cells #[] 79)) B (.slice (some ⟨w.heap.size,0,none⟩) 0 0) []:=
 World.ownsRow_made (base:=B) (e:=79) (size:=7) w #[] 0 hB (by unfold maxLen;omega) rfl
theorem l7Copy_any(nx:Int)(b o cap:Nat)(l:List Pe)(hl:l.length≤1048576)(w:World)(hP:∀ i p,l[i]? = some p→P7 w b (o + i * 7) p) :
  Calls Tryz.prog 38 #[.agg #[.int .i64 nx,.slice (some ⟨b,o,none⟩) l.length cap]] w fun e w'=>∃ g cap',e=.returned (.agg #[.int .i64 nx,.slice (some ⟨g,0,none⟩) l.length cap'])∧Ow w' w.heap.size g l.length cap' l∧Below w.heap.size w w':=by
 have F0:Hid (LW ((w.alloc (.cells #[.int .i64 nx,.slice (some ⟨b,o,none⟩) l.length cap] 35)).alloc (.cells #[.int .i64 0,.slice none 0 0] 35)) w.heap.size nx (.slice (some ⟨b,o,none⟩) l.length cap)):=(LW.at_ w nx (.slice (some ⟨b,o,none⟩) l.length cap) _ _ rfl).alloc _
 have F1:Hid (LW ((w.alloc (.cells #[.int .i64 nx,.slice (some ⟨b,o,none⟩) l.length cap] 35)).alloc (.cells #[.int .i64 0,.slice none 0 0] 35)) (w.heap.size + 1) 0 (.slice none 0 0)):=LW.at_ _ 0 (.slice none 0 0) _ _ (by simp)
 have FB:Hid (Below w.heap.size w ((w.alloc (.cells #[.int .i64 nx,.slice (some ⟨b,o,none⟩) l.length cap] 35)).alloc (.cells #[.int .i64 0,.slice none 0 0] 35))):=((Below.refl _ _).alloc (Nat.le_refl _) _).alloc (by simp) _
 obtain ⟨W0,hW0⟩:∃ W0,W0=((w.alloc (.cells #[.int .i64 nx,.slice (some ⟨b,o,none⟩) l.length cap] 35)).alloc (.cells #[.int .i64 0,.slice none 0 0] 35)):=⟨_,rfl⟩
 rw [← hW0] at F0 F1 FB
 have HW0:=zH hW0
 have FP:Hid (∀ i p,l[i]? = some p→P7 W0 b (o + i * 7) p):=fun i p hp=>(hP i p hp).below FB.out (hP i p hp).lt
 have FE:Hid (Own (W0.alloc (.cells #[] 79)) W0.heap.size (.slice (some ⟨W0.heap.size,0,none⟩) 0 0) []):=own_empty W0 _ (Nat.le_refl _)
 obtain ⟨i0,hi0,hz0,hz1,hz2⟩:=info_parts infoPE
 have hI:Hid (Tryz.prog.info? 79=some i0∧i0.zero=some (.agg (cells7 zeroP).toArray)∧i0.size=7∧i0.bytes=56):=⟨hi0,hz0,hz1,hz2⟩
 clear hW0 hP hi0 hz0 hz1 hz2
 go_enter Tryz.func38,Tryz.ntmps38
 go_upto_region 1 with fail
 rw [← HW0.out]
 clear HW0
 obtain ⟨x0_0,x0_1,y0_0,y0_1⟩:=F0.out
 have l1:=F1.out.lt
 obtain ⟨z0_0,z0_1,z1_0,z1_1⟩:=F0.out.alloc (.cells #[] 79)
 have l0_:=Nat.ne_of_gt F0.out.lt
 have l0':=Nat.ne_of_lt F0.out.lt
 go_upto_region 2 with (first | (at_builtin;go_loud (refine wpList_append_own _ rfl _ _ 33 rfl W0.heap.size 79 i0 (.agg (cells7 zeroP).toArray) 7 56 undPS hI.out.1 hI.out.2.1 hI.out.2.2.1 hI.out.2.2.2 rfl (by omega) _ 0 [] rfl FE.out ⟨b,o,none⟩ l.length cap (flat l) rfl (flat_length l) (news_at (fun i p hp=>(FP.out i p hp).alloc _)) (flat_one l) (by unfold maxLen;omega) (by omega) (by simp) ?_;intro v1 w1 ho hg hn;have FO:Hid (Own w1 W0.heap.size v1 l):=(by have q:=ho;rw [Nat.zero_add,List.nil_append] at q;exact q);obtain ⟨g,cap',rfl,hBg,hgl,-⟩:=FO.out.cases.resolve_left (fun e=>by have q:=(hn.1 e.1).1;cases q);have FO:Hid (Ow w1 W0.heap.size g l.length cap' l):=Own.ow FO.out;clear hn ho;obtain ⟨q0,q1,q2,q3⟩:=(F0.out.alloc (.cells #[] 79)).grown hg (fun e=>by have e2:w.heap.size=W0.heap.size:=Option.some.inj e;omega);have FB:Hid (Below w.heap.size w w1):=(FB.out.alloc FB.out.size _).grown hg (by simp;omega) (fun k hk=>by have e:W0.heap.size=k:=Option.some.inj hk;omega);have F0:Hid (LW w1 w.heap.size nx (.slice (some ⟨b,o,none⟩) l.length cap)):=(F0.out.alloc (.cells #[] 79)).grown hg (fun e=>by have e2:w.heap.size=W0.heap.size:=Option.some.inj e;omega);have F1:Hid (LW w1 (w.heap.size + 1) 0 (.slice none 0 0)):=(F1.out.alloc (.cells #[] 79)).grown hg (fun e=>by have e2:w.heap.size + 1=W0.heap.size:=Option.some.inj e;omega))) | fail)
 have hle:w.heap.size≤W0.heap.size:=by omega
 obtain ⟨W2,hw_⟩:∃ W2,W2=w1.setCell ⟨w.heap.size,1,none⟩ (.slice (some ⟨g,0,none⟩) l.length cap'):=⟨_,rfl⟩
 rw [← hw_]
 have F0:Hid (LW W2 w.heap.size nx (.slice (some ⟨g,0,none⟩) l.length cap')):=by rw [hw_];exact F0.out.set1 _
 have F1:Hid (LW W2 (w.heap.size + 1) 0 (.slice none 0 0)):=by rw [hw_];exact F1.out.other (by omega)
 have FO:Hid (Ow W2 W0.heap.size g l.length cap' l):=by rw [hw_];exact FO.out.other (by simp;omega) _
 have FB:Hid (Below w.heap.size w W2):=by rw [hw_];exact FB.out.setCell (Nat.le_refl _) _
 clear hw_ x0_0 x0_1 y0_0 y0_1 z0_0 z0_1 z1_0 z1_1 q0 q1 q2 q3 hg
 obtain ⟨x0_0,x0_1,y0_0,y0_1⟩:=F0.out
 obtain ⟨x1_0,x1_1,y1_0,y1_1⟩:=F1.out
 go_wp2_with fail
 exact bodyPost_ret (v:=.agg #[.int .i64 nx,.slice (some ⟨g,0,none⟩) l.length cap']) (by simp [results,Tryz.results38,go_sem,x1_0,x1_1]) rfl ⟨g,cap',rfl,((FO.out.base hle).other (by simp;omega) _).other (by simp;omega) _,(FB.out.setCell (by simp) _).setCell (by simp) _⟩
end Go.Proofs.YteimojoicfjdjaaGreat
namespace Go.Proofs.YteimojoicfjdjaaGreat
set_option maxRecDepth 20000
set_option maxHeartbeats 8000000
open Go.RowKit Pl
set_option linter.unusedSimpArgs false
set_option linter.unusedVariables false
theorem l7Count_any(lb:Nat)(nx:Int)(a:Option Addr)(cap:Nat)(l:List Pe)(st sh ca:Int)(hl:l.length≤1048576)(w:World)(hL:LAt w lb nx a l.length cap)(hP:PIn w w.heap.size a l) :
  Calls Tryz.prog 61 #[.pointer (some ⟨lb,0,none⟩),.int .i64 st,.int .i64 sh,.int .i64 ca] w fun e w'=>e=.returned (.int .i64 (cnt st sh ca l))∧Below w.heap.size w w':=by
 have HL:=zH hL
 have HP:=zH hP
 clear hL hP
 go_enter Tryz.func61,Tryz.ntmps61
 go_wp2_with fail
 go_loopw [9,10] (fun nn ii wr=>∃ i:Nat,ii=.int .i64 i∧i≤l.length∧nn=.int .i64 ((l.take i).countP (isIn st sh ca))∧Below w.heap.size w wr) (fun _ ii _=>l.length - (intOf ii).toNat)
 case atStart=>exact ⟨0,rfl,by omega,by simp,Below.refl _ _⟩
 case round=>
  obtain ⟨i,rfl,hi,rfl,hb⟩:=hrel
  have L1:LAt wr lb nx a l.length cap:=HL.out.below hb HL.out.lt
  obtain ⟨x0,x1⟩:=L1
  by_cases hlt:i < l.length
  ·obtain ⟨p,hp⟩:∃ p,l[i]? = some p:=⟨_,List.getElem?_eq_getElem hlt⟩
   rcases HP.out with h0 | ⟨b,o,rfl,hbl,h7⟩
   ·rw [h0] at hlt;simp at hlt
   obtain ⟨c0,c1,c2,c3,c4,c5,c6⟩:=(h7 i p hp).below hb hbl
   have hc1:(l.take i).countP (isIn st sh ca)≤i:=Nat.le_trans List.countP_le_length (by rw [List.length_take];omega)
   have ew:IntKind.i64.wrap (((l.take i).countP (isIn st sh ca):Int) + 1)=((l.take i).countP (isIn st sh ca):Int) + 1:=IntWalk.i64_in _ (by omega)
   have HE:Hid ((l.take (i + 1)).countP (isIn st sh ca)=(l.take i).countP (isIn st sh ca) + (if isIn st sh ca p=true then 1 else 0)):=countP_take hp
   have HB:=zH hb
   clear hp hc1 hb
   go_wp2_with fail
   all_goals
    go_roundw
    case rel=>exact ⟨i + 1,by simp,by omega,by rw [HE.out];simp [isIn, *],HB.out.alloc HB.out.size _⟩
    case measure=>simp [intOf];omega
  ·have ei:i=l.length:=by omega
   subst ei
   have HB:=zH hb
   clear hb
   go_wp2_with fail
   go_ret
   exact ⟨ret_int (by rw [List.take_length];rfl),HB.out⟩
end Go.Proofs.YteimojoicfjdjaaGreat
namespace Go.Proofs.YteimojoicfjdjaaGreat
open Go.RowKit Pl
set_option linter.unusedSimpArgs false
set_option linter.unusedVariables false
theorem turn_at{f:Pe→Pe}{l:List Pe}{i:Nat}{p:Pe}(h:l[i]? = some p):((l.take i).map f ++ l.drop i)[i]? = some p:=by
 have hi:i < l.length:=(List.getElem?_eq_some_iff.1 h).1
 rw [List.getElem?_append_right (by rw [List.length_map,List.length_take];omega),List.length_map,List.length_take,Nat.min_eq_left (by omega),Nat.sub_self,List.getElem?_drop,Nat.add_zero]
 exact h
theorem turn_set{f:Pe→Pe}{l:List Pe}{i:Nat}{p:Pe}(h:l[i]? = some p):((l.take i).map f ++ l.drop i).set i (f p)=(l.take (i + 1)).map f ++ l.drop (i + 1):=by
 have hi:i < l.length:=(List.getElem?_eq_some_iff.1 h).1
 have e:l[i]=p:=(List.getElem?_eq_some_iff.1 h).2
 rw [List.set_append_right _ _ (by rw [List.length_map,List.length_take];omega),List.length_map,List.length_take,Nat.min_eq_left (by omega),Nat.sub_self,List.drop_eq_getElem_cons hi,List.set_cons_zero,List.take_succ_eq_append_getElem hi,List.map_append,e]
 simp
theorem turn_keep{f:Pe→Pe}{l:List Pe}{i:Nat}{p:Pe}(h:l[i]? = some p)(k:f p=p):(l.take i).map f ++ l.drop i=(l.take (i + 1)).map f ++ l.drop (i + 1):=by
 have hi:i < l.length:=(List.getElem?_eq_some_iff.1 h).1
 have e:l[i]=p:=(List.getElem?_eq_some_iff.1 h).2
 rw [List.drop_eq_getElem_cons hi,List.take_succ_eq_append_getElem hi,List.map_append,e]
 simp [k]
theorem grown_set1(W:World)(g o:Nat)(u:Value):W.grownBy (W.setCell ⟨g,o,none⟩ u) (some g):=⟨rfl,rfl,rfl,by simp [World.setCell],fun i _ hne=>Below.heap_setCell _ _ _ _ (fun e=>hne (by rw [e]))⟩
theorem grown_new(W:World)(o:Obj)(g:Nat):W.grownBy (W.alloc o) (some g):=World.grownBy_alloc W o _
def alightP(sh ca fl:Int)(p:Pe):Pe:=if p.sh=sh∧p.ca=ca∧p.st=1∧p.tw=fl then ⟨p.id,p.fr,p.tw,p.sh,p.ca,2,fl⟩ else p
def outP(sh ca fl:Int)(p:Pe):Pe:=if p.sh=sh∧p.ca=ca∧p.st=1 then ⟨p.id,p.fr,p.tw,p.sh,p.ca,3,fl⟩ else p
set_option linter.unusedSimpArgs false
set_option linter.unusedVariables false
theorem clip_mono(m a b:Int)(h:a≤b)(m0:0≤m):clip m a≤clip m b:=by unfold clip;(repeat' split) <;> omega
theorem hi_mono{h:Hs}(o:h.Ok){p p' v v':Int}(hp:p≤p')(hv:v≤v')(b:v'≤2000):h.hi p v≤h.hi p' v':=by
 have r1:=o.br1;have r3:=o.pu1
 unfold Hs.hi
 by_cases c:0 < v
 ·rw [if_pos c,if_pos (by omega)]
  have:=stop_le v v' h.br (by omega) hv (by omega)
  omega
 ·rw [if_neg c]
  split
  ·have:=stopP_nonneg v' h.br (by omega) (by omega);omega
  ·exact hp
theorem lo_mono{h:Hs}(o:h.Ok){p p' v v':Int}(hp:p≤p')(hv:v≤v')(b:-2000≤v):h.lo p v≤h.lo p' v':=by
 have r1:=o.br1;have r3:=o.pu1
 unfold Hs.lo
 by_cases c:v' < 0
 ·rw [if_pos c,if_pos (by omega)]
  have:=stop_le (-v') (-v) h.br (by omega) (by omega) (by omega)
  omega
 ·rw [if_neg c]
  split
  ·have:=stopP_nonneg (-v) h.br (by omega) (by omega);omega
  ·exact hp
theorem step_mono{h:Hs}{c:Cs}{x:Cm}{d e:Int}(o:h.Ok)(hd:d≤e):(stepC h c x d).pos≤(stepC h c x e).pos∧(stepC h c x d).vel≤(stepC h c x e).vel:=by
 have s1:=o.sp1
 have cm:=clip_mono h.sp (c.vel + x.push + d) (c.vel + x.push + e) (by omega) (by omega)
 unfold stepC
 split
 ·split <;> exact ⟨Int.le_refl _,Int.le_refl _⟩
 ·split
  ·exact ⟨Int.le_refl _,Int.le_refl _⟩
  ·dsimp only;omega
theorem worst_hi{h:Hs}{c:Cs}{x:Cm}{d:Int}(k:CarOk h c)(d2:d≤h.dr):h.hi (stepC h c x d).pos (stepC h c x d).vel≤Hs.wh h c x:=by
 have o:=k.ok
 obtain ⟨a,b⟩:=step_mono (c:=c) (x:=x) o d2
 have e:=step_env (x:=x) (d:=h.dr) k
 exact hi_mono o a b (by omega)
theorem worst_lo{h:Hs}{c:Cs}{x:Cm}{d:Int}(k:CarOk h c)(d1:-h.dr≤d):Hs.wl h c x≤h.lo (stepC h c x d).pos (stepC h c x d).vel:=by
 have o:=k.ok
 obtain ⟨a,b⟩:=step_mono (c:=c) (x:=x) o d1
 have e:=step_env (x:=x) (d:=-h.dr) k
 exact lo_mono o a b (by omega)
theorem hi_ge{h:Hs}(o:h.Ok)(p v:Int):p≤h.hi p v:=by
 have r1:=o.br1;have r3:=o.pu1
 unfold Hs.hi
 split
 ·have:=stopP_nonneg v h.br (by omega) (by omega);omega
 ·exact Int.le_refl _
theorem lo_le{h:Hs}(o:h.Ok)(p v:Int):h.lo p v≤p:=by
 have r1:=o.br1;have r3:=o.pu1
 unfold Hs.lo
 split
 ·have:=stopP_nonneg (-v) h.br (by omega) (by omega);omega
 ·exact Int.le_refl _
theorem step_car{h:Hs}{c:Cs}{x:Cm}{d:Int}(k:CarOk h c):-h.sp≤(stepC h c x d).vel∧(stepC h c x d).vel≤h.sp∧0≤(stepC h c x d).door∧(stepC h c x d).door≤h.dO∧((stepC h c x d).door=0 ∨ (stepC h c x d).vel=0):=by
 have o:=k.ok
 have s1:=o.sp1;have s2:=o.sp2;have v1:=k.v1;have v2:=k.v2;have r1:=o.br1;have r3:=o.pu1
 have q1:=k.d1;have q2:=k.d2;have q3:=k.dv;have q4:=o.do1
 have cb:=clip_bd h.sp (c.vel + x.push + d) (by omega)
 have bb:=brk_in c.vel h.br h.sp v1 v2 (by omega)
 unfold stepC
 split
 case isTrue e=>
  have vz:c.vel=0:=by
   rcases e with e | e
   ·omega
   ·exact e.2
  split
  case isTrue=>dsimp only;omega
  case isFalse no=>
   have dn:c.door ≠ 0:=by
    rcases e with e | e
    ·exact e
    ·exact absurd e.1 no
   dsimp only;omega
 case isFalse e=>
  have dz:c.door=0:=by
   by_cases z:c.door=0
   ·exact z
   ·exact absurd (Or.inl z) e
  split <;> (dsimp only;omega)
theorem car_of{h:Hs}{c:Cs}(hf:h.fault=0)(p1:h.low≤c.pos)(p2:c.pos≤h.high)(v:-h.sp≤c.vel∧c.vel≤h.sp∧0≤c.door∧c.door≤h.dO∧(c.door=0 ∨ c.vel=0)):h.car c=0:=by
 obtain ⟨v1,v2,d1,d2,dv⟩:=v
 rw [Hs.car_ok hf]
 unfold Hs.carC
 have r:h.carR c=true:=by
  unfold Hs.carR
  simp only [Bool.and_eq_true,inB_iff]
  exact ⟨⟨p1,p2⟩,⟨v1,v2⟩,d1,d2⟩
 rw [if_pos r,if_neg (by omega)]
theorem stepS_ok{h:Hs}{s:Sh}{a b:Cm}{d e:Int}(k:h.shaft s=0)(d1:-h.dr≤d)(d2:d≤h.dr)(e1:-h.dr≤e)(e2:e≤h.dr):h.shaft (Hs.stepS h s a b d e)=0:=by
 obtain ⟨k1,k2,_⟩:=shaft_parts k
 have c1:=Hs.car_zero k1
 have c2:=Hs.car_zero k2
 have o:=c1.ok
 have m:=grd_may k a b
 unfold Hs.may at m
 simp only [Bool.and_eq_true,decide_eq_true_eq] at m
 obtain ⟨m1,m2,m3⟩:=m
 obtain ⟨x,hx⟩:∃ x,(Hs.grd h s a b).1=x:=⟨_,rfl⟩
 obtain ⟨y,hy⟩:∃ y,(Hs.grd h s a b).2=y:=⟨_,rfl⟩
 unfold Hs.stepS
 rw [hx,hy]
 rw [hx,hy] at m1
 rw [hy] at m2
 rw [hx] at m3
 have q1:=worst_hi (x:=x) c1 d2
 have q2:=worst_lo (x:=x) c1 d1
 have q3:=worst_hi (x:=y) c2 e2
 have q4:=worst_lo (x:=y) c2 e1
 have l1:=lo_le o (stepC h s.lo x d).pos (stepC h s.lo x d).vel
 have l2:=hi_ge o (stepC h s.lo x d).pos (stepC h s.lo x d).vel
 have u1:=lo_le o (stepC h s.up y e).pos (stepC h s.up y e).vel
 have u2:=hi_ge o (stepC h s.up y e).pos (stepC h s.up y e).vel
 have ln:=o.ln1
 have x1:h.car (stepC h s.lo x d)=0:=car_of c1.hf (by omega) (by omega) (step_car c1)
 have x2:h.car (stepC h s.up y e)=0:=car_of c1.hf (by omega) (by omega) (step_car c2)
 unfold Hs.shaft
 dsimp only
 rw [if_pos x1,if_pos x2]
 unfold Hs.shaftC
 dsimp only
 rw [if_neg (by omega),if_neg (by omega)]
structure SpOk(h:Hs)(x:Ss):Prop where
 hf:h.fault=0
 a1:-1≤x.l.lo
 a2:x.l.lo≤x.l.hi
 a3:x.l.hi < x.u.lo
 a4:x.u.lo≤x.u.hi
 a5:x.u.hi≤h.fl
theorem spans_zero_iff{h:Hs}{x:Ss}:Hs.spans h x=0 ↔ SpOk h x:=by
 unfold Hs.spans
 constructor
 ·intro e
  split at e
  case isFalse c=>exact absurd e c
  case isTrue c=>
   unfold Hs.spanC at e
   split at e
   case isFalse=>cases e
   case isTrue r=>
    unfold Hs.spanR at r
    simp only [Bool.and_eq_true,inB_iff] at r
    split at e
    case isTrue=>cases e
    case isFalse b=>
     unfold spanB at b
     simp only [Bool.or_eq_true,decide_eq_true_eq,not_or,Int.not_lt,Int.not_le] at b
     obtain ⟨⟨r1,r2⟩,⟨r3,r4⟩,⟨r5,r6⟩,r7,r8⟩:=r
     obtain ⟨b1,b2,b3⟩:=b
     exact ⟨c,r1,b1,b3,b2,r8⟩
 ·intro o
  obtain ⟨hf,a1,a2,a3,a4,a5⟩:=o
  rw [if_pos hf]
  unfold Hs.spanC
  have r:Hs.spanR h x=true:=by
   unfold Hs.spanR
   simp only [Bool.and_eq_true,inB_iff]
   omega
  have b:spanB x=false:=by
   unfold spanB
   simp only [Bool.or_eq_false_iff,decide_eq_false_iff_not]
   omega
  rw [if_pos r,b]
  rfl
theorem extS_ok{h:Hs}{x:Ss}{a b:Int}(k:SpOk h x)(a1:-1≤a)(ab:a < b)(b1:b≤h.fl):SpOk h (extS x a b):=by
 obtain ⟨hf,c1,c2,c3,c4,c5⟩:=k
 unfold extS
 exact ⟨hf,by dsimp only;omega,by dsimp only;omega,by dsimp only;omega,by dsimp only;omega,by dsimp only;omega⟩
theorem cutS_in(x y:Sp)(hx:x.lo≤x.hi):x.lo≤(cutS x y).lo∧(cutS x y).lo≤(cutS x y).hi∧(cutS x y).hi≤x.hi:=by
 unfold cutS
 split
 ·omega
 ·dsimp only;omega
theorem relS_ok{h:Hs}{x:Ss}(s:Sh)(k:SpOk h x):SpOk h (Hs.relS h x s):=by
 obtain ⟨hf,c1,c2,c3,c4,c5⟩:=k
 have a:=cutS_in x.l (Hs.cover h s.lo) c2
 have b:=cutS_in x.u (Hs.cover h s.up) c4
 unfold Hs.relS
 exact ⟨hf,by dsimp only;omega,by dsimp only;omega,by dsimp only;omega,by dsimp only;omega,by dsimp only;omega⟩
theorem sensed_ok{h:Hs}(hf:h.fault=0)(s:Sh):SpOk h (Hs.sensed h s):=by
 have o:=Hs.ok_of (Hs.fault_zero hf).1
 have a:=Hs.at6_bd o s.lo.pos
 have b:=Hs.at6_bd o s.up.pos
 have f1:=o.fl1
 have A1:-1≤Hs.sensA h s∧Hs.sensA h s < Hs.sensB h s∧Hs.sensB h s≤h.fl:=by
  unfold Hs.sensA Hs.sensB
  split <;> split <;> omega
 unfold Hs.sensed
 exact ⟨hf,by dsimp only;omega,by dsimp only;omega,by dsimp only;omega,by dsimp only;omega,by dsimp only;omega⟩
theorem aim_in{x:Sp}(g:Int)(hx:x.lo≤x.hi):x.lo≤aimS x g∧aimS x g≤x.hi:=by unfold aimS;omega
theorem forC_ok{h:Hs}(hf:h.fault=0)(c:Cs)(f:Int):h.cmd (Hs.forC h c f)=0:=by
 have o:=Hs.ok_of (Hs.fault_zero hf).1
 have p1:=o.pu1
 have key:∀ (x:Cm),-h.pu≤x.push→x.push≤h.pu→x.bad=false→h.cmd x=0:=by
  intro x a b q
  rw [Hs.cmd_ok hf]
  unfold Hs.cmdC
  rw [if_pos (inB_yes a b),q]
  rfl
 unfold Hs.forC
 split
 ·exact key _ (by dsimp only;omega) (by dsimp only;omega) rfl
 ·split
  ·have:=Hs.upP_bd o (-c.vel) (-(h.level f - c.pos))
   exact key _ (by dsimp only;omega) (by dsimp only;omega) rfl
  ·have:=Hs.upP_bd o c.vel (h.level f - c.pos)
   exact key _ (by dsimp only;omega) (by dsimp only;omega) rfl
end Go.Proofs.YteimojoicfjdjaaGreat
namespace Go.Proofs.YteimojoicfjdjaaGreat
set_option maxRecDepth 20000
set_option maxHeartbeats 8000000
open Go.RowKit Pl
set_option linter.unusedSimpArgs false
set_option linter.unusedVariables false
structure LAo(w:World)(b o:Nat)(nx:Int)(a:Option Addr)(len cap:Nat):Prop where
 c0:w.cell? ⟨b,o,none⟩=some (.int .i64 nx)
 c1:w.cell? ⟨b,o + 1,none⟩=some (.slice a len cap)
theorem LAo.lt{w:World}{b o:Nat}{nx:Int}{a:Option Addr}{len cap:Nat}(h:LAo w b o nx a len cap):b < w.heap.size:=World.block_lt_of_cell? w _ h.c0
theorem LAo.below{W w:World}{b o B:Nat}{nx:Int}{a:Option Addr}{len cap:Nat}(h:LAo W b o nx a len cap)(hb:Below B W w)(hB:b < B):LAo w b o nx a len cap:=
 ⟨(hb.cell (p:=⟨b,o,none⟩) hB).trans h.c0,(hb.cell (p:=⟨b,o + 1,none⟩) hB).trans h.c1⟩
theorem LAo.grown{W w:World}{b o:Nat}{nx:Int}{a:Option Addr}{len cap:Nat}{row:Option Nat}(h:LAo W b o nx a len cap)(hg:W.grownBy w row)(hne:some b ≠ row):LAo w b o nx a len cap:=
 ⟨(World.cell?_of_block (w:=W) (hg.block b h.lt hne)).trans h.c0,(World.cell?_of_block (w:=W) (hg.block b h.lt hne)).trans h.c1⟩
theorem l7Count_anyO(lb lo:Nat)(nx:Int)(a:Option Addr)(cap:Nat)(l:List Pe)(st sh ca:Int)(hl:l.length≤1048576)(w:World)(hL:LAo w lb lo nx a l.length cap)(hP:PIn w w.heap.size a l) :
  Calls Tryz.prog 61 #[.pointer (some ⟨lb,lo,none⟩),.int .i64 st,.int .i64 sh,.int .i64 ca] w fun e w'=>e=.returned (.int .i64 (cnt st sh ca l))∧Below w.heap.size w w':=by
 have HL:=zH hL
 have HP:=zH hP
 clear hL hP
 go_enter Tryz.func61,Tryz.ntmps61
 go_wp2_with fail
 go_loopw [9,10] (fun nn ii wr=>∃ i:Nat,ii=.int .i64 i∧i≤l.length∧nn=.int .i64 ((l.take i).countP (isIn st sh ca))∧Below w.heap.size w wr) (fun _ ii _=>l.length - (intOf ii).toNat)
 case atStart=>exact ⟨0,rfl,by omega,by simp,Below.refl _ _⟩
 case round=>
  obtain ⟨i,rfl,hi,rfl,hb⟩:=hrel
  have L1:LAo wr lb lo nx a l.length cap:=HL.out.below hb HL.out.lt
  obtain ⟨x0,x1⟩:=L1
  by_cases hlt:i < l.length
  ·obtain ⟨p,hp⟩:∃ p,l[i]? = some p:=⟨_,List.getElem?_eq_getElem hlt⟩
   rcases HP.out with h0 | ⟨b,o,rfl,hbl,h7⟩
   ·rw [h0] at hlt;simp at hlt
   obtain ⟨c0,c1,c2,c3,c4,c5,c6⟩:=(h7 i p hp).below hb hbl
   have hc1:(l.take i).countP (isIn st sh ca)≤i:=Nat.le_trans List.countP_le_length (by rw [List.length_take];omega)
   have ew:IntKind.i64.wrap (((l.take i).countP (isIn st sh ca):Int) + 1)=((l.take i).countP (isIn st sh ca):Int) + 1:=IntWalk.i64_in _ (by omega)
   have HE:Hid ((l.take (i + 1)).countP (isIn st sh ca)=(l.take i).countP (isIn st sh ca) + (if isIn st sh ca p=true then 1 else 0)):=countP_take hp
   have HB:=zH hb
   clear hp hc1 hb
   go_wp2_with fail
   all_goals
    go_roundw
    case rel=>exact ⟨i + 1,by simp,by omega,by rw [HE.out];simp [isIn, *],HB.out.alloc HB.out.size _⟩
    case measure=>simp [intOf];omega
  ·have ei:i=l.length:=by omega
   subst ei
   have HB:=zH hb
   clear hb
   go_wp2_with fail
   go_ret
   exact ⟨ret_int (by rw [List.take_length];rfl),HB.out⟩
end Go.Proofs.YteimojoicfjdjaaGreat
namespace Go.Proofs.YteimojoicfjdjaaGreat
open Go.RowKit Pl
theorem or_any(x y:Int)(b:Nat)(w:World)(c0:w.cell? ⟨b,0,none⟩=some (.int .i64 x))(c1:w.cell? ⟨b,1,none⟩=some (.int .i64 y)) :
  Calls Tryz.prog 78 #[.slice (some ⟨b,0,none⟩) 2 2] w fun e w'=>e=.returned (.int .i64 (orI x y))∧w'=w:=by
 unfold orI
 by_cases h:x=0
 ·rw [if_pos h]
  exact or_second x y h b w c0 c1
 ·rw [if_neg h]
  exact or_first x y h b w c0 c1
structure Pr2(w:World)(b:Nat)(x y:Int):Prop where
 c0:w.cell? ⟨b,0,none⟩=some (.int .i64 x)
 c1:w.cell? ⟨b,1,none⟩=some (.int .i64 y)
theorem Pr2.at_(w:World)(x y:Int)(T:TypeId)(b:Nat)(hb:b=w.heap.size):Pr2 (w.alloc (.cells #[.int .i64 x,.int .i64 y] T)) b x y:=by
 subst hb
 constructor <;> simp
end Go.Proofs.YteimojoicfjdjaaGreat
namespace Go.Proofs.YteimojoicfjdjaaGreat
set_option maxRecDepth 20000
set_option maxHeartbeats 8000000
open Go.RowKit Pl
set_option linter.unusedSimpArgs false
set_option linter.unusedVariables false
theorem or_three(x y z:Int)(b:Nat)(w:World)(c0:w.cell? ⟨b,0,none⟩=some (.int .i64 x))(c1:w.cell? ⟨b,1,none⟩=some (.int .i64 y))(c2:w.cell? ⟨b,2,none⟩=some (.int .i64 z)) :
  Calls Tryz.prog 78 #[.slice (some ⟨b,0,none⟩) 3 3] w fun e w'=>e=.returned (.int .i64 (if x=0 then (if y=0 then z else y) else x))∧w'=w:=by
 obtain ⟨r,hr⟩:∃ r,(if x=0 then (if y=0 then z else y) else x)=r:=⟨_,rfl⟩
 rw [hr]
 have HR:=zH hr
 clear hr
 go_enter Tryz.func78,Tryz.ntmps78
 go_wp2
 go_loop [8] (fun i=>i=.int .i64 0 ∨ (i=.int .i64 1∧x=0) ∨ (i=.int .i64 2∧x=0∧y=0) ∨ (i=.int .i64 3∧x=0∧y=0∧z=0)) (fun i=>(3 - intOf i).toNat)
 case atStart=>exact Or.inl rfl
 case round=>
  rcases hrel with h | ⟨h,hx⟩ | ⟨h,hx,hy⟩ | ⟨h,hx,hy,hz⟩
  ·subst h
   by_cases hx:x=0
   ·subst hx
    go_wp2
    go_round
    case rel=>exact Or.inr (Or.inl (by simp))
    case measure=>simp [intOf]
   ·have hn:(x != 0)=true:=by simpa using hx
    have he:r=x:=by rw [← HR.out,if_neg hx]
    subst he
    clear hx HR
    go_wp2
    go_ret
    exact ⟨rfl,rfl⟩
  ·subst h
   subst hx
   by_cases hy:y=0
   ·subst hy
    go_wp2
    go_round
    case rel=>exact Or.inr (Or.inr (Or.inl (by simp)))
    case measure=>simp [intOf]
   ·have hn:(y != 0)=true:=by simpa using hy
    have he:r=y:=by rw [← HR.out,if_pos rfl,if_neg hy]
    subst he
    clear hy HR
    go_wp2
    go_ret
    exact ⟨rfl,rfl⟩
  ·subst h
   subst hx
   subst hy
   by_cases hz:z=0
   ·subst hz
    go_wp2
    go_round
    case rel=>exact Or.inr (Or.inr (Or.inr (by simp)))
    case measure=>simp [intOf]
   ·have hn:(z != 0)=true:=by simpa using hz
    have he:r=z:=by rw [← HR.out,if_pos rfl,if_pos rfl]
    subst he
    clear hz HR
    go_wp2
    go_ret
    exact ⟨rfl,rfl⟩
  ·subst h
   subst hx
   subst hy
   subst hz
   have he:r=0:=by rw [← HR.out,if_pos rfl,if_pos rfl]
   subst he
   clear HR
   go_wp2
   go_ret
   exact ⟨rfl,rfl⟩
end Go.Proofs.YteimojoicfjdjaaGreat
namespace Go.Proofs.YteimojoicfjdjaaGreat
open Go.RowKit Pl Sx
set_option linter.unusedVariables false
def iOr:Ent Tryz.prog where
 f:=78
 sp:=fun _=>none
 ok:=fun _ _ _ h=>by cases h
 sr:=fun us cs=>match us,cs with
  | [],[.int .i64 x,.int .i64 y]=>some (none,.int .i64 (orI x y))
  | [],[.int .i64 x,.int .i64 y,.int .i64 z]=>some (none,.int .i64 (orI x (orI y z)))
  | _,_=>none
 okr:=fun us cs p v h hp b T w hw=>by
  split at h
  ·rename_i x y
   simp only [Option.some.injEq,Prod.mk.injEq] at h
   obtain ⟨rfl,rfl⟩:=h
   have c:=fun i=>cell_of_row w b i _ T (0,0) hw
   exact bw (or_any x y b w ((c 0).trans rfl) ((c 1).trans rfl))
  ·rename_i x y z
   simp only [Option.some.injEq,Prod.mk.injEq] at h
   obtain ⟨rfl,rfl⟩:=h
   have c:=fun i=>cell_of_row w b i _ T (0,0) hw
   exact bw (or_three x y z b w ((c 0).trans rfl) ((c 1).trans rfl) ((c 2).trans rfl))
  ·cases h
structure Pr where
 a:Cm
 b:Cm
abbrev jv(x:Pr):Value:=.agg #[.int .i64 x.a.push,.bool x.a.brk,.bool x.a.opn,.int .i64 x.b.push,.bool x.b.brk,.bool x.b.opn]
def pJ:Value→Option Pr
 | .agg c=>match c.toList with
  | [.int .i64 a,.bool b,.bool c,.int .i64 d,.bool e,.bool f]=>some ⟨⟨a,b,c⟩,⟨d,e,f⟩⟩
  | _=>none
 | _=>none
def kJ:Kd Pr:=⟨pJ,jv,fun x a h=>by
 unfold pJ at h
 split at h
 ·rename_i c
  split at h
  ·rename_i e
   simp only [Option.some.injEq] at h
   subst h
   exact congrArg Value.agg (Array.ext' e)
  ·cases h
 ·cases h⟩
end Go.Proofs.YteimojoicfjdjaaGreat
namespace Go.Proofs.YteimojoicfjdjaaGreat
open Go.RowKit Pl
set_option linter.unusedSimpArgs false
set_option linter.unusedVariables false
theorem row_below{W w:World}{B C:Nat}{e:TypeId}{size n:Nat}{v:Value}{xs:List Value}(h:W.ownsRow B e size v n xs)(hb:Below C W w)(hC:∀ k,v.ownBlock=some k→k < C):w.ownsRow B e size v n xs:=by
 refine ⟨h.1,?_⟩
 rcases h.2 with hn | ⟨g,cap,cur,rfl,hB,hg,rest⟩
 ·exact Or.inl hn
 ·exact Or.inr ⟨g,cap,cur,rfl,hB,(hb.block g (hC g rfl)).trans hg,rest⟩
theorem row_base{w:World}{B C:Nat}{e:TypeId}{size n:Nat}{v:Value}{xs:List Value}(h:w.ownsRow B e size v n xs)(hC:C≤B):w.ownsRow C e size v n xs:=by
 refine ⟨h.1,?_⟩
 rcases h.2 with hn | ⟨g,cap,cur,e',hB,rest⟩
 ·exact Or.inl hn
 ·exact Or.inr ⟨g,cap,cur,e',Nat.le_trans hC hB,rest⟩
theorem row_other{w:World}{B:Nat}{e:TypeId}{size n:Nat}{v:Value}{xs:List Value}(h:w.ownsRow B e size v n xs){p:Addr}(hne:v.ownBlock ≠ some p.block)(u:Value):(w.setCell p u).ownsRow B e size v n xs:=by
 refine World.ownsRow.kept (row:=some p.block) h ⟨rfl,rfl,rfl,by simp [World.setCell],fun i _ hne=>?_⟩ (Or.inr hne)
 exact Below.heap_setCell _ _ _ _ (fun e=>hne (by rw [e]))
def intsV(l:List Int):List Value:=l.map (fun n=>.int .i64 n)
def OwI(w:World)(B:Nat)(v:Value)(l:List Int):Prop:=w.ownsRow B 2 1 v l.length (intsV l)
theorem OwI.below{W w:World}{B C:Nat}{v:Value}{l:List Int}(h:OwI W B v l)(hb:Below C W w)(hC:∀ k,v.ownBlock=some k→k < C):OwI w B v l:=row_below h hb hC
theorem OwI.lt{w:World}{B:Nat}{v:Value}{l:List Int}(h:OwI w B v l):∀ k,v.ownBlock=some k→B≤k∧k < w.heap.size:=World.ownsRow.lt h
theorem OwI.alloc{w:World}{B:Nat}{v:Value}{l:List Int}(h:OwI w B v l)(o:Obj):OwI (w.alloc o) B v l:=World.ownsRow.alloc h o
theorem OwI.drew{w:World}{B:Nat}{v:Value}{l:List Int}(h:OwI w B v l):OwI w.drew B v l:=h
theorem OwI.base{w:World}{B C:Nat}{v:Value}{l:List Int}(h:OwI w B v l)(hC:C≤B):OwI w C v l:=row_base h hC
theorem OwI.other{w:World}{B:Nat}{v:Value}{l:List Int}(h:OwI w B v l){p:Addr}(hne:v.ownBlock ≠ some p.block)(u:Value):OwI (w.setCell p u) B v l:=row_other h hne u
theorem OwI.sl{w:World}{B:Nat}{v:Value}{l:List Int}(h:OwI w B v l):∃ a cap,v=.slice a l.length cap:=by
 rcases h.2 with ⟨e,hn⟩ | ⟨g,cap,cur,e,_⟩
 ·exact ⟨none,0,by rw [hn];exact e⟩
 ·exact ⟨_,_,e⟩
theorem OwI.cell{w:World}{B g n cap:Nat}{l:List Int}(h:OwI w B (.slice (some ⟨g,0,none⟩) n cap) l){i:Nat}{x:Int}(hx:l[i]? = some x):w.cell? ⟨g,i,none⟩=some (.int .i64 x):=by
 have hn:n=l.length:=by
  obtain ⟨a',c',e⟩:=h.sl
  simp at e
  exact e.2.1
 subst hn
 have hi:i < l.length:=(List.getElem?_eq_some_iff.1 hx).1
 refine (World.ownsRow.cellAt h i (by omega)).trans ?_
 simp [intsV,hx]
theorem OwI.fz{w:World}{B g n cap:Nat}{l:List Int}(h:OwI w B (.slice (some ⟨g,0,none⟩) n cap) l)(k:Nat):w.frozen? ⟨g,k,none⟩=false:=by
 have hn:n=l.length:=by
  obtain ⟨a',c',e⟩:=h.sl
  simp at e
  exact e.2.1
 subst hn
 exact World.ownsRow.frozenAt h k
theorem OwI.set{w:World}{B g cap:Nat}{l:List Int}(h:OwI w B (.slice (some ⟨g,0,none⟩) l.length cap) l)(i:Nat)(x:Int):OwI (w.setCell ⟨g,i,none⟩ (.int .i64 x)) B (.slice (some ⟨g,0,none⟩) l.length cap) (l.set i x):=by
 have a:=(World.ownsRow.stored h i (.int .i64 x)).1
 have e:(intsV l).set i (.int .i64 x)=intsV (l.set i x):=by simp [intsV,List.map_set]
 rw [e] at a
 unfold OwI
 rw [List.length_set]
 exact a
theorem info64:(Tryz.prog.info? 2).map (fun i=>(i.zero,i.size,i.bytes))=some (some (.int .i64 0),1,8):=by kernel_rfl
theorem undI64S:Tryz.prog.underlying 173=some (.slice 2):=by kernel_rfl
theorem owi_nil(w:World)(B:Nat):OwI w B (.slice none 0 0) []:=World.ownsRow_nil w B _ 1
theorem one_new(w:World)(x:Int)(T:TypeId):∀ j u,([Value.int .i64 x]:List Value)[j]? = some u→(w.alloc (.cells #[.int .i64 x] T)).cell? ((⟨w.heap.size,0,none⟩:Addr).add j)=some u:=by
 intro j u hu
 cases j with
 | zero=>
  simp at hu
  subst hu
  simp [Addr.add]
 | succ j=>simp at hu
theorem one_cell(x:Int):∀ u ∈ ([Value.int .i64 x]:List Value),u.oneCell'=true:=by
 intro u hu
 simp at hu
 subst hu
 rfl
theorem OwI.cases{w:World}{B:Nat}{v:Value}{l:List Int}(h:OwI w B v l):(v=.slice none 0 0∧l = []) ∨ ∃ g cap,v=.slice (some ⟨g,0,none⟩) l.length cap:=by
 rcases h.2 with ⟨e,hn⟩ | ⟨g,cap,cur,e,_⟩
 ·exact Or.inl ⟨e,List.eq_nil_of_length_eq_zero hn⟩
 ·exact Or.inr ⟨g,cap,e⟩
structure Two(w:World)(g g' i:Nat)(x:Int):Prop where
 c0:w.cell? ⟨g,i,none⟩=some (.int .i64 x)
 c1:w.cell? ⟨g',i,none⟩=some (.int .i64 x)
 l0:g < w.heap.size
 l1:g' < w.heap.size
end Go.Proofs.YteimojoicfjdjaaGreat
