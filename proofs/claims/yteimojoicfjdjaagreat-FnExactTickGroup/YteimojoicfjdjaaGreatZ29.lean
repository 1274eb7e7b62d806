/- Parts of the proof: XHi. -/
import Derived.Test.YteimojoicfjdjaaGreatZ18
import Derived.Test.YteimojoicfjdjaaGreatZ25
import Derived.Test.YteimojoicfjdjaaGreatZ28
namespace Go.Proofs.YteimojoicfjdjaaGreat
open Value renaming int → I
open IntKind renaming i64 → Z
open Go.RowKit Pl Sx
set_option linter.unusedVariables false
set_option linter.unusedSimpArgs false
def iIn:Ent Tryz.prog:=e3 kI kI kI 23 (fun n_ l_ h_=>none) (fun n_ l_ h_=>.bool (inB n_ l_ h_)) fun n_ l_ h_ p w=>bw (isWithin_any n_ l_ h_ w)
def iStop:Ent Tryz.prog:=e2 kI kI 165 (fun s_ b_=>some (0≤s_∧s_≤2000∧1≤b_∧b_≤2000)) (fun s_ b_=>I Z (stopP s_ b_)) fun s_ b_ p w=>have ⟨h1,h2,h3,h4⟩:=p _ rfl;bw (pathToStop_any s_ b_ h1 h2 h3 h4 w)
def iBd:Ent Tryz.prog:=e1 kH 76 (fun h_=>none) (fun h_=>.bool h_.rangeB) fun h_ p w=>isBounded_any h_ w
def iCl:Ent Tryz.prog:=e3 kI kI kI 164 (fun n_ l_ h_=>none) (fun n_ l_ h_=>I Z (cl n_ l_ h_)) fun n_ l_ h_ p w=>bw (bounded_any n_ l_ h_ w)
theorem fullStop_any(h:Hs)(o:h.Ok)(w:World) :
  Calls Tryz.prog 123 #[.agg #[I Z h.fl,I Z h.gp,I Z h.ln,I Z h.rf,I Z h.sp,I Z h.pu,I Z h.br,I Z h.dr,I Z h.lv,I Z h.dO,I Z h.ld,I Z h.qu]] w fun e w'=>e=.returned (I Z (h.sp + stopP h.sp h.br))∧Below w.heap.size w w':=by
 refine calls_ok mo (L:=[iStop]) Tryz.func123 (args:=[hv h]) (T:=(0≤h.sp∧h.sp≤2000∧1≤h.br∧h.br≤2000)∧IsI (IntKind.i64.wrap (h.sp + (stopP h.sp h.br))) (h.sp + stopP h.sp h.br)) (by kernel_rfl) ?_ w
 have A:=o.all
 exact ⟨by omega,iI (w64 (by omega) (by omega))⟩
def iFull:Ent Tryz.prog:=e1 kH 123 (fun h_=>some (h_.Ok)) (fun h_=>I Z (h_.sp + stopP h_.sp h_.br)) fun h_ p w=>fullStop_any h_ (p _ rfl) w
theorem spacing_any(h:Hs)(o:h.Ok)(w:World) :
  Calls Tryz.prog 77 #[.agg #[I Z h.fl,I Z h.gp,I Z h.ln,I Z h.rf,I Z h.sp,I Z h.pu,I Z h.br,I Z h.dr,I Z h.lv,I Z h.dO,I Z h.ld,I Z h.qu]] w fun e w'=>e=.returned (I Z h.apart)∧Below w.heap.size w w':=by
 refine calls_ok mo (L:=[iFull]) Tryz.func77 (args:=[hv h]) (T:=(h.Ok)∧IsI (IntKind.i64.wrap ((IntKind.i64.wrap (h.ln + (h.sp + stopP h.sp h.br))) + (IntKind.i64.wrap (2 * h.lv)))) h.apart) (by kernel_rfl) ?_ w
 have A:=o.all
 refine ⟨o,iI ?_⟩
 simp (disch:=omega) only [w64]
 unfold Hs.apart;omega
def iSpac:Ent Tryz.prog:=e1 kH 77 (fun h_=>some (h_.Ok)) (fun h_=>I Z h_.apart) fun h_ p w=>spacing_any h_ (p _ rfl) w
theorem implFault_any(h:Hs)(w:World) :
  Calls Tryz.prog 42 #[.agg #[I Z h.fl,I Z h.gp,I Z h.ln,I Z h.rf,I Z h.sp,I Z h.pu,I Z h.br,I Z h.dr,I Z h.lv,I Z h.dO,I Z h.ld,I Z h.qu]] w fun e w'=>e=.returned (I Z h.fault)∧Below w.heap.size w w':=by
 refine calls_ok mo (L:=[iBd,iSpac]) Tryz.func42 (args:=[hv h]) (T:=cond (!h.rangeB) (IsI 3 h.fault) ((h.Ok)∧cond (!(decide (h.gp < h.apart))) (cond (decide (h.rf < h.apart)) (IsI 1 h.fault) (IsI 0 h.fault)) (IsI 1 h.fault))) (by kernel_rfl) ?_ w
 unfold Hs.fault
 repeat' first | refine if_b (fun _=>?_) (fun _=>?_) | refine iI ?_ | apply And.intro
 all_goals first | (refine Hs.ok_of ?_;simp_all;done) | simp_all
 all_goals omega
def iFault:Ent Tryz.prog:=e1 kH 42 (fun h_=>none) (fun h_=>I Z h_.fault) fun h_ p w=>implFault_any h_ w
theorem placeOf_any(h:Hs)(o:h.Ok)(f:Int)(f1:-1≤f)(f2:f≤h.fl)(w:World) :
  Calls Tryz.prog 167 #[.agg #[I Z h.fl,I Z h.gp,I Z h.ln,I Z h.rf,I Z h.sp,I Z h.pu,I Z h.br,I Z h.dr,I Z h.lv,I Z h.dO,I Z h.ld,I Z h.qu],I Z f] w fun e w'=>e=.returned (I Z (h.level f))∧Below w.heap.size w w':=by
 refine calls_ok mo (L:=[]) Tryz.func167 (args:=[hv h,I Z f]) (T:=cond (f == (-1)) (IsI (IntKind.i64.wrap (0 - h.rf)) (h.level f)) (cond (f == h.fl) (IsI (IntKind.i64.wrap ((IntKind.i64.wrap ((IntKind.i64.wrap (h.fl - 1)) * h.gp)) + h.rf)) (h.level f)) (IsI (IntKind.i64.wrap (f * h.gp)) (h.level f)))) (by kernel_rfl) ?_ w
 have A:=o.all
 unfold Hs.level
 refine if_b (fun e=>iI ?_) (fun e=>if_b (fun g=>iI ?_) (fun g=>iI ?_))
 ·simp at e;rw [if_pos (by omega),w64 (by omega) (by omega)];omega
 ·simp at e g;rw [if_neg (by omega),if_pos (by omega),w64 (x:=h.fl - 1) (by omega) (by omega),w64 (x:=(h.fl - 1) * h.gp) (by omega) (by omega),w64 (by omega) (by omega)]
 ·simp at e g;have ⟨u1,u2⟩:=o.floor_bd f (by omega) (by omega)
  rw [if_neg (by omega),if_neg (by omega),w64 (by omega) (by omega)]
def iPlace:Ent Tryz.prog:=e2 kH kI 167 (fun h_ f_=>some (h_.Ok∧-1≤f_∧f_≤h_.fl)) (fun h_ f_=>I Z (h_.level f_)) fun h_ f_ p w=>have ⟨h1,h2,h3⟩:=p _ rfl;placeOf_any h_ h1 f_ h2 h3 w
theorem lowestPlace_any(h:Hs)(o:h.Ok)(w:World) :
  Calls Tryz.prog 129 #[.agg #[I Z h.fl,I Z h.gp,I Z h.ln,I Z h.rf,I Z h.sp,I Z h.pu,I Z h.br,I Z h.dr,I Z h.lv,I Z h.dO,I Z h.ld,I Z h.qu]] w fun e w'=>e=.returned (I Z h.low)∧Below w.heap.size w w':=by
 refine calls_ok mo (L:=[iPlace,iFull]) Tryz.func129 (args:=[hv h]) (T:=(h.Ok∧-1≤((-1):Int)∧((-1):Int)≤h.fl)∧(h.Ok)∧IsI (IntKind.i64.wrap ((IntKind.i64.wrap ((h.level ((-1):Int)) - h.lv)) - (h.sp + stopP h.sp h.br))) h.low) (by kernel_rfl) ?_ w
 have A:=o.all;have e:h.level (-1)=-h.rf:=by unfold Hs.level;rw [if_pos (by omega)]
 refine ⟨⟨o,by omega,by omega⟩,o,iI ?_⟩
 rw [e];simp (disch:=omega) only [w64];unfold Hs.low Hs.room;omega
def iLow:Ent Tryz.prog:=e1 kH 129 (fun h_=>some (h_.Ok)) (fun h_=>I Z h_.low) fun h_ p w=>lowestPlace_any h_ (p _ rfl) w
theorem highestPlace_any(h:Hs)(o:h.Ok)(w:World) :
  Calls Tryz.prog 127 #[.agg #[I Z h.fl,I Z h.gp,I Z h.ln,I Z h.rf,I Z h.sp,I Z h.pu,I Z h.br,I Z h.dr,I Z h.lv,I Z h.dO,I Z h.ld,I Z h.qu]] w fun e w'=>e=.returned (I Z h.high)∧Below w.heap.size w w':=by
 refine calls_ok mo (L:=[iPlace,iFull]) Tryz.func127 (args:=[hv h]) (T:=(h.Ok∧-1≤h.fl∧h.fl≤h.fl)∧(h.Ok)∧IsI (IntKind.i64.wrap ((IntKind.i64.wrap ((h.level h.fl) + h.lv)) + (h.sp + stopP h.sp h.br))) h.high) (by kernel_rfl) ?_ w
 have A:=o.all;have e:h.level h.fl=(h.fl - 1) * h.gp + h.rf:=by unfold Hs.level;rw [if_neg (by omega),if_pos (by omega)]
 refine ⟨⟨o,by omega,by omega⟩,o,iI ?_⟩
 rw [e];simp (disch:=omega) only [w64];unfold Hs.high Hs.room;omega
def iHigh:Ent Tryz.prog:=e1 kH 127 (fun h_=>some (h_.Ok)) (fun h_=>I Z h_.high) fun h_ p w=>highestPlace_any h_ (p _ rfl) w
theorem hasPlace_any(h:Hs)(f:Int)(w:World) :
  Calls Tryz.prog 168 #[.agg #[I Z h.fl,I Z h.gp,I Z h.ln,I Z h.rf,I Z h.sp,I Z h.pu,I Z h.br,I Z h.dr,I Z h.lv,I Z h.dO,I Z h.ld,I Z h.qu],I Z f] w fun e w'=>e=.returned (.bool (inB f (-1) h.fl))∧Below w.heap.size w w':=by
 refine calls_ok mo (L:=[iIn]) Tryz.func168 (args:=[hv h,I Z f]) (T:=IsB (inB f ((-1):Int) h.fl) (inB f (-1) h.fl)) (by kernel_rfl) ?_ w
 exact iB rfl
def iHas:Ent Tryz.prog:=e2 kH kI 168 (fun h_ f_=>none) (fun h_ f_=>.bool (inB f_ (-1) h_.fl)) fun h_ f_ p w=>hasPlace_any h_ f_ w
theorem isFloor_any(h:Hs)(f:Int)(f1:2≤h.fl)(f2:h.fl≤12)(w:World) :
  Calls Tryz.prog 133 #[.agg #[I Z h.fl,I Z h.gp,I Z h.ln,I Z h.rf,I Z h.sp,I Z h.pu,I Z h.br,I Z h.dr,I Z h.lv,I Z h.dO,I Z h.ld,I Z h.qu],I Z f] w fun e w'=>e=.returned (.bool (inB f 0 (h.fl - 1)))∧Below w.heap.size w w':=by
 refine calls_ok mo (L:=[iIn]) Tryz.func133 (args:=[hv h,I Z f]) (T:=IsB (inB f (0:Int) (IntKind.i64.wrap (h.fl - 1))) (inB f 0 (h.fl - 1))) (by kernel_rfl) ?_ w
 exact iB (by rw [w64 (by omega) (by omega)])
def iFloor:Ent Tryz.prog:=e2 kH kI 133 (fun h_ f_=>some (2≤h_.fl∧h_.fl≤12)) (fun h_ f_=>.bool (inB f_ 0 (h_.fl - 1))) fun h_ f_ p w=>have ⟨h1,h2⟩:=p _ rfl;isFloor_any h_ f_ h1 h2 w
theorem isInShaft_any(h:Hs)(o:h.Ok)(c:Cs)(w:World) :
  Calls Tryz.prog 192 #[.agg #[I Z h.fl,I Z h.gp,I Z h.ln,I Z h.rf,I Z h.sp,I Z h.pu,I Z h.br,I Z h.dr,I Z h.lv,I Z h.dO,I Z h.ld,I Z h.qu],.agg #[I Z c.pos,I Z c.vel,I Z c.door]] w fun e w'=>e=.returned (.bool (inB c.pos h.low h.high))∧Below w.heap.size w w':=by
 refine calls_ok mo (L:=[iLow,iHigh,iIn]) Tryz.func192 (args:=[hv h,cv c]) (T:=(h.Ok)∧(h.Ok)∧IsB (inB c.pos h.low h.high) (inB c.pos h.low h.high)) (by kernel_rfl) ?_ w
 exact ⟨o,o,iB rfl⟩
def iInSh:Ent Tryz.prog:=e2 kH kC 192 (fun h_ c_=>some (h_.Ok)) (fun h_ c_=>.bool (inB c_.pos h_.low h_.high)) fun h_ c_ p w=>isInShaft_any h_ (p _ rfl) c_ w
theorem isCarBounded_any(h:Hs)(o:h.Ok)(c:Cs)(w:World) :
  Calls Tryz.prog 166 #[.agg #[I Z h.fl,I Z h.gp,I Z h.ln,I Z h.rf,I Z h.sp,I Z h.pu,I Z h.br,I Z h.dr,I Z h.lv,I Z h.dO,I Z h.ld,I Z h.qu],.agg #[I Z c.pos,I Z c.vel,I Z c.door]] w fun e w'=>e=.returned (.bool (h.carR c))∧Below w.heap.size w w':=by
 refine calls_ok mo (L:=[iInSh,iIn]) Tryz.func166 (args:=[hv h,cv c]) (T:=(h.Ok)∧cond (inB c.pos h.low h.high) (cond (inB c.vel (IntKind.i64.wrap (0 - h.sp)) h.sp) (IsB (inB c.door (0:Int) h.dO) (h.carR c)) (IsB false (h.carR c))) (IsB false (h.carR c))) (by kernel_rfl) ?_ w
 have A:=o.all
 rw [w64 (by omega) (by omega),Int.zero_sub]
 repeat' first | exact o | refine if_b (fun _=>?_) (fun _=>?_) | refine iI ?_ | refine iB ?_ | refine congrArg xv ?_ | apply And.intro
 all_goals simp_all [Hs.carR]
def iCarB:Ent Tryz.prog:=e2 kH kC 166 (fun h_ c_=>some (h_.Ok)) (fun h_ c_=>.bool (h_.carR c_)) fun h_ c_ p w=>isCarBounded_any h_ (p _ rfl) c_ w
theorem implCarFault_any(h:Hs)(c:Cs)(w:World) :
  Calls Tryz.prog 124 #[.agg #[I Z h.fl,I Z h.gp,I Z h.ln,I Z h.rf,I Z h.sp,I Z h.pu,I Z h.br,I Z h.dr,I Z h.lv,I Z h.dO,I Z h.ld,I Z h.qu],.agg #[I Z c.pos,I Z c.vel,I Z c.door]] w fun e w'=>e=.returned (I Z (h.car c))∧Below w.heap.size w w':=by
 refine calls_ok mo (L:=[iFault,iCarB]) Tryz.func124 (args:=[hv h,cv c]) (T:=cond (h.fault != 0) (IsI h.fault (h.car c)) ((h.Ok)∧cond (!(h.carR c)) (IsI 3 (h.car c)) (cond (c.door != 0) (cond (c.vel != 0) (IsI 1 (h.car c)) (IsI 0 (h.car c))) (IsI 0 (h.car c))))) (by kernel_rfl) ?_ w
 unfold Hs.car
 repeat' first | exact o | refine if_b (fun _=>?_) (fun _=>?_) | refine iI ?_ | refine iB ?_ | refine congrArg xv ?_ | apply And.intro
 all_goals try first | (exact Hs.ok_of (Hs.fault_zero (by simp_all)).1) | (simp_all [Hs.carC];done)
def iCar:Ent Tryz.prog:=e2 kH kC 124 (fun h_ c_=>none) (fun h_ c_=>I Z (h_.car c_)) fun h_ c_ p w=>implCarFault_any h_ c_ w
theorem implCommandFault_any(h:Hs)(x:Cm)(w:World) :
  Calls Tryz.prog 180 #[.agg #[I Z h.fl,I Z h.gp,I Z h.ln,I Z h.rf,I Z h.sp,I Z h.pu,I Z h.br,I Z h.dr,I Z h.lv,I Z h.dO,I Z h.ld,I Z h.qu],.agg #[I Z x.push,.bool x.brk,.bool x.opn]] w fun e w'=>e=.returned (I Z (h.cmd x))∧Below w.heap.size w w':=by
 refine calls_ok mo (L:=[iFault,iIn]) Tryz.func180 (args:=[hv h,xv x]) (T:=cond (h.fault != 0) (IsI h.fault (h.cmd x)) (cond (!(inB x.push (IntKind.i64.wrap (0 - h.pu)) h.pu)) (IsI 3 (h.cmd x)) (cond x.brk (cond (!x.opn) (cond (!x.brk) (cond x.opn (cond (x.push != 0) (IsI 1 (h.cmd x)) (IsI 0 (h.cmd x))) (IsI 0 (h.cmd x))) (cond (x.push != 0) (IsI 1 (h.cmd x)) (IsI 0 (h.cmd x)))) (IsI 1 (h.cmd x))) (cond (!x.brk) (cond x.opn (cond (x.push != 0) (IsI 1 (h.cmd x)) (IsI 0 (h.cmd x))) (IsI 0 (h.cmd x))) (cond (x.push != 0) (IsI 1 (h.cmd x)) (IsI 0 (h.cmd x))))))) (by kernel_rfl) ?_ w
 unfold Hs.cmd
 refine if_b (fun e=>iI ?_) (fun e=>?_)
 ·simp_all
 have e':h.fault=0:=by simpa using e
 have A:=(Hs.ok_of (Hs.fault_zero e').1).all
 rw [w64 (by omega) (by omega),Int.zero_sub]
 repeat' first | exact o | refine if_b (fun _=>?_) (fun _=>?_) | refine iI ?_ | refine iB ?_ | refine congrArg xv ?_ | apply And.intro
 all_goals simp_all [Hs.cmdC,Cm.bad]
def iCmd:Ent Tryz.prog:=e2 kH kX 180 (fun h_ x_=>none) (fun h_ x_=>I Z (h_.cmd x_)) fun h_ x_ p w=>implCommandFault_any h_ x_ w
theorem highestStop_any(h:Hs)(o:h.Ok)(c:Cs)(p1:-100000000≤c.pos)(p2:c.pos≤100000000)(v1:-500≤c.vel)(v2:c.vel≤500)(w:World) :
  Calls Tryz.prog 126 #[.agg #[I Z h.fl,I Z h.gp,I Z h.ln,I Z h.rf,I Z h.sp,I Z h.pu,I Z h.br,I Z h.dr,I Z h.lv,I Z h.dO,I Z h.ld,I Z h.qu],.agg #[I Z c.pos,I Z c.vel,I Z c.door]] w fun e w'=>e=.returned (I Z (h.hi c.pos c.vel))∧Below w.heap.size w w':=by
 refine calls_ok mo (L:=[iStop]) Tryz.func126 (args:=[hv h,cv c]) (T:=(0≤(if 0 > c.vel then 0 else c.vel)∧(if 0 > c.vel then 0 else c.vel)≤2000∧1≤h.br∧h.br≤2000)∧IsI (IntKind.i64.wrap (c.pos + (stopP (if 0 > c.vel then 0 else c.vel) h.br))) (h.hi c.pos c.vel)) (by kernel_rfl) ?_ w
 have A:=o.all
 unfold Hs.hi
 by_cases e:0 < c.vel
 ·obtain ⟨s1,s2⟩:=stop_small c.vel h.br (by omega) (by omega) (by omega)
  rw [if_neg (show ¬ 0 > c.vel by omega),if_pos e]
  exact ⟨by omega,iI (w64 (by omega) (by omega))⟩
 ·have z:=stopP_zero h.br
  have e0:(if 0 > c.vel then (0:Int) else c.vel)=0:=by split <;> omega
  rw [e0,z,if_neg e]
  exact ⟨by omega,iI (by rw [w64 (by omega) (by omega)];omega)⟩
def iHs:Ent Tryz.prog:=e2 kH kC 126 (fun h_ c_=>some (h_.Ok∧(-100000000≤c_.pos∧c_.pos≤100000000)∧-500≤c_.vel∧c_.vel≤500)) (fun h_ c_=>I Z (h_.hi c_.pos c_.vel)) fun h_ c_ p w=>have ⟨h1,h2,h3⟩:=p _ rfl;highestStop_any h_ h1 c_ h2.1 h2.2 h3.1 h3.2 w
theorem lowestStop_any(h:Hs)(o:h.Ok)(c:Cs)(p1:-100000000≤c.pos)(p2:c.pos≤100000000)(v1:-500≤c.vel)(v2:c.vel≤500)(w:World) :
  Calls Tryz.prog 128 #[.agg #[I Z h.fl,I Z h.gp,I Z h.ln,I Z h.rf,I Z h.sp,I Z h.pu,I Z h.br,I Z h.dr,I Z h.lv,I Z h.dO,I Z h.ld,I Z h.qu],.agg #[I Z c.pos,I Z c.vel,I Z c.door]] w fun e w'=>e=.returned (I Z (h.lo c.pos c.vel))∧Below w.heap.size w w':=by
 refine calls_ok mo (L:=[iStop]) Tryz.func128 (args:=[hv h,cv c]) (T:=(0≤(if 0 > (IntKind.i64.wrap (0 - c.vel)) then 0 else (IntKind.i64.wrap (0 - c.vel)))∧(if 0 > (IntKind.i64.wrap (0 - c.vel)) then 0 else (IntKind.i64.wrap (0 - c.vel)))≤2000∧1≤h.br∧h.br≤2000)∧IsI (IntKind.i64.wrap (c.pos - (stopP (if 0 > (IntKind.i64.wrap (0 - c.vel)) then 0 else (IntKind.i64.wrap (0 - c.vel))) h.br))) (h.lo c.pos c.vel)) (by kernel_rfl) ?_ w
 have A:=o.all
 unfold Hs.lo
 rw [w64 (x:=0 - c.vel) (by omega) (by omega),Int.zero_sub]
 by_cases e:c.vel < 0
 ·obtain ⟨s1,s2⟩:=stop_small (-c.vel) h.br (by omega) (by omega) (by omega)
  rw [if_neg (show ¬ 0 > -c.vel by omega),if_pos e]
  exact ⟨by omega,iI (w64 (by omega) (by omega))⟩
 ·have z:=stopP_zero h.br
  have e0:(if 0 > -c.vel then (0:Int) else -c.vel)=0:=by split <;> omega
  rw [e0,z,if_neg e]
  exact ⟨by omega,iI (by rw [w64 (by omega) (by omega)];omega)⟩
def iLs:Ent Tryz.prog:=e2 kH kC 128 (fun h_ c_=>some (h_.Ok∧(-100000000≤c_.pos∧c_.pos≤100000000)∧-500≤c_.vel∧c_.vel≤500)) (fun h_ c_=>I Z (h_.lo c_.pos c_.vel)) fun h_ c_ p w=>have ⟨h1,h2,h3⟩:=p _ rfl;lowestStop_any h_ h1 c_ h2.1 h2.2 h3.1 h3.2 w
theorem spareRoom_any(h:Hs)(s:Sh)(kl:h.car s.lo=0)(ku:h.car s.up=0)(w:World) :
  Calls Tryz.prog 125 #[.agg #[I Z h.fl,I Z h.gp,I Z h.ln,I Z h.rf,I Z h.sp,I Z h.pu,I Z h.br,I Z h.dr,I Z h.lv,I Z h.dO,I Z h.ld,I Z h.qu],.agg #[I Z s.lo.pos,I Z s.lo.vel,I Z s.lo.door,I Z s.up.pos,I Z s.up.vel,I Z s.up.door]] w fun e w'=>e=.returned (I Z (h.lo s.up.pos s.up.vel - h.hi s.lo.pos s.lo.vel - h.ln))∧Below w.heap.size w w':=by
 refine calls_ok mo (L:=[iLs,iHs]) Tryz.func125 (args:=[hv h,sv s]) (T:=(h.Ok∧(-100000000≤s.up.pos∧s.up.pos≤100000000)∧-500≤s.up.vel∧s.up.vel≤500)∧(h.Ok∧(-100000000≤s.lo.pos∧s.lo.pos≤100000000)∧-500≤s.lo.vel∧s.lo.vel≤500)∧IsI (IntKind.i64.wrap ((IntKind.i64.wrap ((h.lo s.up.pos s.up.vel) - (h.hi s.lo.pos s.lo.vel))) - h.ln)) (h.lo s.up.pos s.up.vel - h.hi s.lo.pos s.lo.vel - h.ln)) (by kernel_rfl) ?_ w
 have a:=Hs.car_zero kl;have b:=Hs.car_zero ku
 have A:=a.all;have B:=b.all;have O:=a.ok.all
 exact ⟨⟨a.ok,by omega,by omega⟩,⟨a.ok,by omega,by omega⟩,iI (by simp (disch:=omega) only [w64])⟩
def iSpare:Ent Tryz.prog:=e2 kH kS 125 (fun h_ s_=>some (h_.car s_.lo=0∧h_.car s_.up=0)) (fun h_ s_=>I Z (h_.lo s_.up.pos s_.up.vel - h_.hi s_.lo.pos s_.lo.vel - h_.ln)) fun h_ s_ p w=>have ⟨h1,h2⟩:=p _ rfl;spareRoom_any h_ s_ h1 h2 w
theorem wayTo_any(h:Hs)(o:h.Ok)(c:Cs)(f:Int)(f1:-1≤f)(f2:f≤h.fl)(p1:-100000000≤c.pos)(p2:c.pos≤100000000)(w:World) :
  Calls Tryz.prog 197 #[.agg #[I Z h.fl,I Z h.gp,I Z h.ln,I Z h.rf,I Z h.sp,I Z h.pu,I Z h.br,I Z h.dr,I Z h.lv,I Z h.dO,I Z h.ld,I Z h.qu],.agg #[I Z c.pos,I Z c.vel,I Z c.door],I Z f] w fun e w'=>e=.returned (I Z (h.level f - c.pos))∧Below w.heap.size w w':=by
 refine calls_ok mo (L:=[iPlace]) Tryz.func197 (args:=[hv h,cv c,I Z f]) (T:=(h.Ok∧-1≤f∧f≤h.fl)∧IsI (IntKind.i64.wrap ((h.level f) - c.pos)) (h.level f - c.pos)) (by kernel_rfl) ?_ w
 have A:=o.all;have:=o.level_bd f f1 (by omega)
 exact ⟨⟨o,f1,f2⟩,iI (w64 (by omega) (by omega))⟩
def iWay:Ent Tryz.prog:=e3 kH kC kI 197 (fun h_ c_ f_=>some (h_.Ok∧(-1≤f_∧f_≤h_.fl)∧-100000000≤c_.pos∧c_.pos≤100000000)) (fun h_ c_ f_=>I Z (h_.level f_ - c_.pos)) fun h_ c_ f_ p w=>have ⟨h1,h2,h3⟩:=p _ rfl;wayTo_any h_ h1 c_ f_ h2.1 h2.2 h3.1 h3.2 w
def iSize:Ent Tryz.prog:=e1 kI 207 (fun n_=>some (-9223372036854775808≤n_∧n_≤9223372036854775807)) (fun n_=>.int .u64 (sz n_)) fun n_ p w=>have ⟨h1,h2⟩:=p _ rfl;bw (sizeOf_any n_ h1 h2 w)
theorem isLevel_any(h:Hs)(o:h.Ok)(c:Cs)(f:Int)(f1:-1≤f)(f2:f≤h.fl)(p1:-100000000≤c.pos)(p2:c.pos≤100000000)(w:World) :
  Calls Tryz.prog 177 #[.agg #[I Z h.fl,I Z h.gp,I Z h.ln,I Z h.rf,I Z h.sp,I Z h.pu,I Z h.br,I Z h.dr,I Z h.lv,I Z h.dO,I Z h.ld,I Z h.qu],.agg #[I Z c.pos,I Z c.vel,I Z c.door],I Z f] w fun e w'=>e=.returned (.bool (Hs.near h c f))∧Below w.heap.size w w':=by
 refine calls_ok mo (L:=[iWay,iIn]) Tryz.func177 (args:=[hv h,cv c,I Z f]) (T:=(h.Ok∧(-1≤f∧f≤h.fl)∧-100000000≤c.pos∧c.pos≤100000000)∧IsB (inB (h.level f - c.pos) (IntKind.i64.wrap (0 - h.lv)) h.lv) (Hs.near h c f)) (by kernel_rfl) ?_ w
 have A:=o.all
 refine ⟨⟨o,by omega,by omega⟩,iB (Bool.eq_iff_iff.2 ?_)⟩
 rw [w64 (by omega) (by omega),inB_iff]
 unfold Hs.near absI
 rw [decide_eq_true_eq]
 split <;> omega
def iLevel:Ent Tryz.prog:=e3 kH kC kI 177 (fun h_ c_ f_=>some (h_.Ok∧(-1≤f_∧f_≤h_.fl)∧-100000000≤c_.pos∧c_.pos≤100000000)) (fun h_ c_ f_=>.bool (Hs.near h_ c_ f_)) fun h_ c_ f_ p w=>have ⟨h1,h2,h3⟩:=p _ rfl;isLevel_any h_ h1 c_ f_ h2.1 h2.2 h3.1 h3.2 w
theorem isAtRest_any(h:Hs)(o:h.Ok)(c:Cs)(f:Int)(f1:-1≤f)(f2:f≤h.fl)(p1:-100000000≤c.pos)(p2:c.pos≤100000000)(w:World) :
  Calls Tryz.prog 138 #[.agg #[I Z h.fl,I Z h.gp,I Z h.ln,I Z h.rf,I Z h.sp,I Z h.pu,I Z h.br,I Z h.dr,I Z h.lv,I Z h.dO,I Z h.ld,I Z h.qu],.agg #[I Z c.pos,I Z c.vel,I Z c.door],I Z f] w fun e w'=>e=.returned (.bool ((c.vel == 0) && Hs.near h c f))∧Below w.heap.size w w':=by
 refine calls_ok mo (L:=[iLevel]) Tryz.func138 (args:=[hv h,cv c,I Z f]) (T:=cond (c.vel == 0) ((h.Ok∧(-1≤f∧f≤h.fl)∧-100000000≤c.pos∧c.pos≤100000000)∧IsB (Hs.near h c f) ((c.vel == 0) && Hs.near h c f)) (IsB false ((c.vel == 0) && Hs.near h c f))) (by kernel_rfl) ?_ w
 refine if_b (fun e=>⟨⟨o,by omega,by omega⟩,iB (by simp [e])⟩) (fun e=>iB (by simp [e]))
theorem heldBack_any(c:Cs)(x y:Cm)(hy:brkFor c x=y)(w:World) :
  Calls Tryz.prog 181 #[.agg #[I Z c.pos,I Z c.vel,I Z c.door],.agg #[I Z x.push,.bool x.brk,.bool x.opn]] w fun e w'=>e=.returned (.agg #[I Z y.push,.bool y.brk,.bool y.opn])∧Below w.heap.size w w':=by
 subst hy
 refine calls_ok mo (L:=[]) Tryz.func181 (args:=[cv c,xv x]) (T:=cond (c.door != 0) (xv x=xv (brkFor c x)) (xv (⟨0,true,false⟩:Cm)=xv (brkFor c x))) (by kernel_rfl) ?_ w
 unfold brkFor
 refine if_b (fun _=>?_) (fun _=>?_) <;> refine congrArg xv ?_ <;> simp_all
def iHeld:Ent Tryz.prog:=e2 kC kX 181 (fun c_ x_=>none) (fun c_ x_=>.agg #[I Z ((brkFor c_ x_).push),.bool ((brkFor c_ x_).brk),.bool ((brkFor c_ x_).opn)]) fun c_ x_ p w=>heldBack_any c_ x_ _ rfl w
theorem hasPlaces_any(h:Hs)(m:Sp)(w:World) :
  Calls Tryz.prog 130 #[.agg #[I Z h.fl,I Z h.gp,I Z h.ln,I Z h.rf,I Z h.sp,I Z h.pu,I Z h.br,I Z h.dr,I Z h.lv,I Z h.dO,I Z h.ld,I Z h.qu],.agg #[I Z m.lo,I Z m.hi]] w fun e w'=>e=.returned (.bool (inB m.lo (-1) h.fl && inB m.hi (-1) h.fl))∧Below w.heap.size w w':=by
 refine calls_ok mo (L:=[iHas]) Tryz.func130 (args:=[hv h,mv m]) (T:=cond (inB m.lo (-1) h.fl) (IsB (inB m.hi (-1) h.fl) (inB m.lo (-1) h.fl && inB m.hi (-1) h.fl)) (IsB false (inB m.lo (-1) h.fl && inB m.hi (-1) h.fl))) (by kernel_rfl) ?_ w
 refine if_b (fun e=>iB (by simp [e])) (fun e=>iB (by simp [e]))
def iHasP:Ent Tryz.prog:=e2 kH kM 130 (fun h_ m_=>none) (fun h_ m_=>.bool (inB m_.lo (-1) h_.fl && inB m_.hi (-1) h_.fl)) fun h_ m_ p w=>hasPlaces_any h_ m_ w
theorem implSpansFault_any(h:Hs)(x:Ss)(w:World) :
  Calls Tryz.prog 80 #[.agg #[I Z h.fl,I Z h.gp,I Z h.ln,I Z h.rf,I Z h.sp,I Z h.pu,I Z h.br,I Z h.dr,I Z h.lv,I Z h.dO,I Z h.ld,I Z h.qu],.agg #[I Z x.l.lo,I Z x.l.hi,I Z x.u.lo,I Z x.u.hi]] w fun e w'=>e=.returned (I Z (Hs.spans h x))∧Below w.heap.size w w':=by
 refine calls_ok mo (L:=[iFault,iHasP]) Tryz.func80 (args:=[hv h,nv x]) (T:=cond (h.fault != 0) (IsI h.fault (Hs.spans h x)) (cond (!(!(inB x.l.lo (-1) h.fl && inB x.l.hi (-1) h.fl))) (cond (!(inB x.u.lo (-1) h.fl && inB x.u.hi (-1) h.fl)) (IsI 3 (Hs.spans h x)) (cond (!(decide (x.l.lo > x.l.hi))) (cond (!(decide (x.u.lo > x.u.hi))) (cond (decide (x.l.hi ≥ x.u.lo)) (IsI 1 (Hs.spans h x)) (IsI 0 (Hs.spans h x))) (IsI 1 (Hs.spans h x))) (IsI 1 (Hs.spans h x)))) (IsI 3 (Hs.spans h x)))) (by kernel_rfl) ?_ w
 unfold Hs.spans
 repeat' first | exact o | refine if_b (fun _=>?_) (fun _=>?_) | refine iI ?_ | refine iB ?_ | refine congrArg xv ?_ | apply And.intro
 all_goals simp_all [Hs.spanC,Hs.spanR,spanB]
 all_goals (intro a b;simp_all)
end Go.Proofs.YteimojoicfjdjaaGreat
