/- Parts of the proof: XGd. -/
import Derived.Test.YteimojoicfjdjaaGreatZ18
import Derived.Test.YteimojoicfjdjaaGreatZ22
import Derived.Test.YteimojoicfjdjaaGreatZ24
namespace Go.Proofs.YteimojoicfjdjaaGreat
open Value renaming int → I
open IntKind renaming i64 → Z
open Go.RowKit Pl Sx
set_option linter.unusedVariables false
set_option linter.unusedSimpArgs false
theorem l1Speed_b(p b:Int)(hb:1≤b)(hb2:b≤2000)(w:World) :
  Calls Tryz.prog 189 #[I Z p,I Z b] w fun e w'=>e=.returned (I Z (speedP p b))∧Below w.heap.size w w':=
 (l1Speed_any p b hb hb2 w).mono fun e w' ⟨r,he,hr,hw⟩=>⟨by rw [speedP_of hr];exact he,hw ▸ Below.refl _ _⟩
def eSpeed:Ent Tryz.prog:=e2 kI kI 189 (fun p_ b_=>some (1≤b_∧b_≤2000)) (fun p_ b_=>I Z (speedP p_ b_)) fun p_ b_ p w=>have ⟨h1,h2⟩:=p _ rfl;l1Speed_b p_ b_ h1 h2 w
theorem l4Up_any(h:Hs)(o:h.Ok)(v p:Int)(v1:-500≤v)(v2:v≤500)(w:World) :
  Calls Tryz.prog 159 #[.agg #[I Z h.fl,I Z h.gp,I Z h.ln,I Z h.rf,I Z h.sp,I Z h.pu,I Z h.br,I Z h.dr,I Z h.lv,I Z h.dO,I Z h.ld,I Z h.qu],I Z v,I Z p] w fun e w'=>e=.returned (I Z (Hs.upP h v p))∧Below w.heap.size w w':=by
 refine calls_ok mo (L:=[eSpeed,eMin,eMax,eClip]) Tryz.func159 (args:=[hv h,I Z v,I Z p]) (T:=(1≤h.pu∧h.pu≤2000)∧(0≤h.pu∧h.pu≤1000000000000000)∧IsI (clip h.pu (IntKind.i64.wrap ((max (min (IntKind.i64.wrap (v + h.pu)) (min h.sp (speedP p h.pu))) (IntKind.i64.wrap (v - h.pu))) - v))) (Hs.upP h v p)) (by kernel_rfl) ?_ w
 have A:=o.all;have B:=speedP_bd p h.pu
 refine ⟨by omega,by omega,iI ?_⟩
 simp (disch:=omega) only [w64];rfl
def eUp:Ent Tryz.prog:=e3 kH kI kI 159 (fun h_ v_ p_=>some (h_.Ok∧-500≤v_∧v_≤500)) (fun h_ v_ p_=>I Z (Hs.upP h_ v_ p_)) fun h_ v_ p_ p w=>have ⟨h1,h2,h3⟩:=p _ rfl;l4Up_any h_ h1 v_ p_ h2 h3 w
theorem l4For_any(h:Hs)(o:h.Ok)(c:Cs)(f:Int)(f1:-1≤f)(f2:f≤12)(p1:-100000000≤c.pos)(p2:c.pos≤100000000)(v1:-500≤c.vel)(v2:c.vel≤500)(x:Cm)(hx:Hs.forC h c f=x)(w:World) :
  Calls Tryz.prog 112 #[.agg #[I Z h.fl,I Z h.gp,I Z h.ln,I Z h.rf,I Z h.sp,I Z h.pu,I Z h.br,I Z h.dr,I Z h.lv,I Z h.dO,I Z h.ld,I Z h.qu],.agg #[I Z c.pos,I Z c.vel,I Z c.door],I Z f] w (isCmd w x):=by
 subst hx
 refine calls_ok mo (L:=[eLevel,eAbs,eUp]) Tryz.func112 (args:=[hv h,cv c,I Z f]) (T:=(h.Ok∧-1≤f∧f≤12)∧(-9223372036854775807≤(IntKind.i64.wrap ((h.level f) - c.pos))∧(IntKind.i64.wrap ((h.level f) - c.pos))≤9223372036854775807)∧cond (decide ((absI (IntKind.i64.wrap ((h.level f) - c.pos)))≤h.lv)) ((-9223372036854775807≤c.vel∧c.vel≤9223372036854775807)∧cond (decide ((absI c.vel)≤h.br)) (xv (⟨0,true,false⟩:Cm)=xv (Hs.forC h c f)) (cond (decide ((IntKind.i64.wrap ((h.level f) - c.pos)) < 0)) ((h.Ok∧-500≤(IntKind.i64.wrap (0 - c.vel))∧(IntKind.i64.wrap (0 - c.vel))≤500)∧xv (⟨(IntKind.i64.wrap (0 - (Hs.upP h (IntKind.i64.wrap (0 - c.vel)) (IntKind.i64.wrap (0 - (IntKind.i64.wrap ((h.level f) - c.pos))))))),false,false⟩:Cm)=xv (Hs.forC h c f)) ((h.Ok∧-500≤c.vel∧c.vel≤500)∧xv (⟨(Hs.upP h c.vel (IntKind.i64.wrap ((h.level f) - c.pos))),false,false⟩:Cm)=xv (Hs.forC h c f)))) (cond (decide ((IntKind.i64.wrap ((h.level f) - c.pos)) < 0)) ((h.Ok∧-500≤(IntKind.i64.wrap (0 - c.vel))∧(IntKind.i64.wrap (0 - c.vel))≤500)∧xv (⟨(IntKind.i64.wrap (0 - (Hs.upP h (IntKind.i64.wrap (0 - c.vel)) (IntKind.i64.wrap (0 - (IntKind.i64.wrap ((h.level f) - c.pos))))))),false,false⟩:Cm)=xv (Hs.forC h c f)) ((h.Ok∧-500≤c.vel∧c.vel≤500)∧xv (⟨(Hs.upP h c.vel (IntKind.i64.wrap ((h.level f) - c.pos))),false,false⟩:Cm)=xv (Hs.forC h c f)))) (by kernel_rfl) ?_ w
 have A:=o.all;have B:=o.level_bd f f1 f2
 simp (disch:=omega) only [w64]
 have u1:=Hs.upP_bd o c.vel (h.level f - c.pos);have u2:=Hs.upP_bd o (0 - c.vel) (0 - (h.level f - c.pos))
 simp (disch:=omega) only [w64]
 unfold Hs.forC
 repeat' first | exact o | exact kl | exact ku | refine if_b (fun _=>?_) (fun _=>?_) | refine iI ?_ | refine iB ?_ | refine congrArg xv ?_ | refine congrArg sv ?_ | refine congrArg mv ?_ | refine congrArg nv ?_ | apply And.intro
 all_goals try simp only [decide_eq_true_eq,decide_eq_false_iff_not] at *
 all_goals first | omega | (rw [if_pos ⟨by omega,by omega⟩];done) | (rw [if_neg (by omega),if_pos (by omega)];simp;done) | (rw [if_neg (by omega),if_neg (by omega)])
def eFor:Ent Tryz.prog:=e3 kH kC kI 112 (fun h_ c_ f_=>some (h_.Ok∧(-1≤f_∧f_≤12)∧(-100000000≤c_.pos∧c_.pos≤100000000)∧-500≤c_.vel∧c_.vel≤500)) (fun h_ c_ f_=>.agg #[I Z ((Hs.forC h_ c_ f_).push),.bool ((Hs.forC h_ c_ f_).brk),.bool ((Hs.forC h_ c_ f_).opn)]) fun h_ c_ f_ p w=>have ⟨h1,h2,h3,h4⟩:=p _ rfl;l4For_any h_ h1 c_ f_ h2.1 h2.2 h3.1 h3.2 h4.1 h4.2 _ rfl w
theorem l8Command_any(h:Hs)(o:h.Ok)(c:Cs)(ph:Int)(st:Bool)(aim:Int)(f1:-1≤aim)(f2:aim≤12)(p1:-100000000≤c.pos)(p2:c.pos≤100000000)(v1:-500≤c.vel)(v2:c.vel≤500)(x:Cm)(hx:cmdP h c ph st aim=x)(w:World) :
  Calls Tryz.prog 68 #[.agg #[I Z h.fl,I Z h.gp,I Z h.ln,I Z h.rf,I Z h.sp,I Z h.pu,I Z h.br,I Z h.dr,I Z h.lv,I Z h.dO,I Z h.ld,I Z h.qu],.agg #[I Z c.pos,I Z c.vel,I Z c.door],I Z ph,.bool st,I Z aim] w (isCmd w x):=by
 subst hx
 refine calls_ok mo (L:=[eFor]) Tryz.func68 (args:=[hv h,cv c,I Z ph,.bool st,I Z aim]) (T:=cond (ph == 1) (xv (⟨0,false,true⟩:Cm)=xv (cmdP h c ph st aim)) (cond (ph == 2) (xv (⟨0,false,false⟩:Cm)=xv (cmdP h c ph st aim)) (cond st (xv (⟨0,true,false⟩:Cm)=xv (cmdP h c ph st aim)) ((h.Ok∧(-1≤aim∧aim≤12)∧(-100000000≤c.pos∧c.pos≤100000000)∧-500≤c.vel∧c.vel≤500)∧xv (Hs.forC h c aim)=xv (cmdP h c ph st aim))))) (by kernel_rfl) ?_ w
 unfold cmdP
 repeat' first | exact o | exact kl | exact ku | refine if_b (fun _=>?_) (fun _=>?_) | refine iI ?_ | refine iB ?_ | refine congrArg xv ?_ | refine congrArg sv ?_ | refine congrArg mv ?_ | refine congrArg nv ?_ | apply And.intro
 all_goals try omega
 all_goals simp_all
theorem l5Brake_any(c:Cs)(x y:Cm)(hy:brkFor c x=y)(w:World) :
  Calls Tryz.prog 160 #[.agg #[I Z c.pos,I Z c.vel,I Z c.door],.agg #[I Z x.push,.bool x.brk,.bool x.opn]] w fun e w'=>e=.returned (.agg #[I Z y.push,.bool y.brk,.bool y.opn])∧Below w.heap.size w w':=by
 subst hy
 refine calls_ok mo (L:=[]) Tryz.func160 (args:=[cv c,xv x]) (T:=cond (c.door != 0) (xv x=xv (brkFor c x)) (xv (⟨0,true,false⟩:Cm)=xv (brkFor c x))) (by kernel_rfl) ?_ w
 unfold brkFor
 refine if_b (fun _=>?_) (fun _=>?_) <;> refine congrArg xv ?_ <;> simp_all
def eBrake5:Ent Tryz.prog:=e2 kC kX 160 (fun c_ x_=>none) (fun c_ x_=>.agg #[I Z ((brkFor c_ x_).push),.bool ((brkFor c_ x_).brk),.bool ((brkFor c_ x_).opn)]) fun c_ x_ p w=>l5Brake_any c_ x_ _ rfl w
theorem l5High_any(h:Hs)(c:Cs)(x:Cm)(k:CarOk h c)(x1:-h.pu≤x.push)(x2:x.push≤h.pu)(w:World) :
  Calls Tryz.prog 191 #[.agg #[I Z h.fl,I Z h.gp,I Z h.ln,I Z h.rf,I Z h.sp,I Z h.pu,I Z h.br,I Z h.dr,I Z h.lv,I Z h.dO,I Z h.ld,I Z h.qu],.agg #[I Z c.pos,I Z c.vel,I Z c.door],.agg #[I Z x.push,.bool x.brk,.bool x.opn]] w fun e w'=>e=.returned (I Z (Hs.wh h c x))∧Below w.heap.size w w':=by
 refine calls_ok mo (L:=[eStep,eHi]) Tryz.func191 (args:=[hv h,cv c,xv x]) (T:=(CarOk h c∧(-h.pu≤x.push∧x.push≤h.pu)∧-h.dr≤h.dr∧h.dr≤h.dr)∧(h.Ok∧(-100000000≤((stepC h c x h.dr).pos)∧((stepC h c x h.dr).pos)≤100000000)∧-500≤((stepC h c x h.dr).vel)∧((stepC h c x h.dr).vel)≤500)∧IsI (h.hi ((stepC h c x h.dr).pos) ((stepC h c x h.dr).vel)) (Hs.wh h c x)) (by kernel_rfl) ?_ w
 have o:=k.ok;have A:=o.all;have B:=step_env (x:=x) (d:=h.dr) k
 exact ⟨⟨k,by omega,by omega⟩,⟨o,by omega,by omega⟩,rfl⟩
def eWh:Ent Tryz.prog:=e3 kH kC kX 191 (fun h_ c_ x_=>some (CarOk h_ c_∧-h_.pu≤x_.push∧x_.push≤h_.pu)) (fun h_ c_ x_=>I Z (Hs.wh h_ c_ x_)) fun h_ c_ x_ p w=>have ⟨h1,h2,h3⟩:=p _ rfl;l5High_any h_ c_ x_ h1 h2 h3 w
theorem l5Low_any(h:Hs)(c:Cs)(x:Cm)(k:CarOk h c)(x1:-h.pu≤x.push)(x2:x.push≤h.pu)(w:World) :
  Calls Tryz.prog 190 #[.agg #[I Z h.fl,I Z h.gp,I Z h.ln,I Z h.rf,I Z h.sp,I Z h.pu,I Z h.br,I Z h.dr,I Z h.lv,I Z h.dO,I Z h.ld,I Z h.qu],.agg #[I Z c.pos,I Z c.vel,I Z c.door],.agg #[I Z x.push,.bool x.brk,.bool x.opn]] w fun e w'=>e=.returned (I Z (Hs.wl h c x))∧Below w.heap.size w w':=by
 refine calls_ok mo (L:=[eStep,eLo]) Tryz.func190 (args:=[hv h,cv c,xv x]) (T:=(CarOk h c∧(-h.pu≤x.push∧x.push≤h.pu)∧-h.dr≤(IntKind.i64.wrap (0 - h.dr))∧(IntKind.i64.wrap (0 - h.dr))≤h.dr)∧(h.Ok∧(-100000000≤((stepC h c x (IntKind.i64.wrap (0 - h.dr))).pos)∧((stepC h c x (IntKind.i64.wrap (0 - h.dr))).pos)≤100000000)∧-500≤((stepC h c x (IntKind.i64.wrap (0 - h.dr))).vel)∧((stepC h c x (IntKind.i64.wrap (0 - h.dr))).vel)≤500)∧IsI (h.lo ((stepC h c x (IntKind.i64.wrap (0 - h.dr))).pos) ((stepC h c x (IntKind.i64.wrap (0 - h.dr))).vel)) (Hs.wl h c x)) (by kernel_rfl) ?_ w
 have o:=k.ok;have A:=o.all;have B:=step_env (x:=x) (d:=-h.dr) k
 simp (disch:=omega) only [w64,Int.zero_sub]
 exact ⟨⟨k,by omega,by omega⟩,⟨o,by omega,by omega⟩,rfl⟩
def eWl:Ent Tryz.prog:=e3 kH kC kX 190 (fun h_ c_ x_=>some (CarOk h_ c_∧-h_.pu≤x_.push∧x_.push≤h_.pu)) (fun h_ c_ x_=>I Z (Hs.wl h_ c_ x_)) fun h_ c_ x_ p w=>have ⟨h1,h2,h3⟩:=p _ rfl;l5Low_any h_ c_ x_ h1 h2 h3 w
theorem l5May_any(h:Hs)(s:Sh)(a b:Cm)(kl:CarOk h s.lo)(ku:CarOk h s.up)(a1:-h.pu≤a.push)(a2:a.push≤h.pu)(b1:-h.pu≤b.push)(b2:b.push≤h.pu)(w:World) :
  Calls Tryz.prog 161 #[.agg #[I Z h.fl,I Z h.gp,I Z h.ln,I Z h.rf,I Z h.sp,I Z h.pu,I Z h.br,I Z h.dr,I Z h.lv,I Z h.dO,I Z h.ld,I Z h.qu],.agg #[I Z s.lo.pos,I Z s.lo.vel,I Z s.lo.door,I Z s.up.pos,I Z s.up.vel,I Z s.up.door],.agg #[I Z a.push,.bool a.brk,.bool a.opn],.agg #[I Z b.push,.bool b.brk,.bool b.opn]] w fun e w'=>e=.returned (.bool (Hs.may h s a b))∧Below w.heap.size w w':=by
 refine calls_ok mo (L:=[eWl,eWh,eHigh2,eLow2]) Tryz.func161 (args:=[hv h,sv s,xv a,xv b]) (T:=(CarOk h s.up∧-h.pu≤b.push∧b.push≤h.pu)∧(CarOk h s.lo∧-h.pu≤a.push∧a.push≤h.pu)∧cond (decide ((IntKind.i64.wrap ((Hs.wl h s.up b) - (Hs.wh h s.lo a))) < h.ln)) (IsB false (Hs.may h s a b)) ((CarOk h s.up∧-h.pu≤b.push∧b.push≤h.pu)∧(h.Ok)∧cond (decide ((Hs.wh h s.up b)≤h.high)) ((CarOk h s.lo∧-h.pu≤a.push∧a.push≤h.pu)∧(h.Ok)∧IsB (decide ((Hs.wl h s.lo a) ≥ h.low)) (Hs.may h s a b)) (IsB false (Hs.may h s a b)))) (by kernel_rfl) ?_ w
 have o:=kl.ok;have A:=o.all;have B:=Hs.wh_bd kl a;have C:=Hs.wl_bd kl a;have D:=Hs.wh_bd ku b;have E:=Hs.wl_bd ku b
 unfold Hs.may
 repeat' first | exact o | exact kl | exact ku | refine if_b (fun _=>?_) (fun _=>?_) | refine iI ?_ | refine iB ?_ | refine congrArg xv ?_ | refine congrArg sv ?_ | refine congrArg mv ?_ | refine congrArg nv ?_ | apply And.intro
 all_goals try omega
 all_goals simp (disch:=omega) only [w64] at *
 all_goals simp_all
 all_goals omega
def eMay:Ent Tryz.prog:=e4 kH kS kX kX 161 (fun h_ s_ a_ b_=>some ((CarOk h_ s_.lo∧CarOk h_ s_.up)∧(-h_.pu≤a_.push∧a_.push≤h_.pu)∧-h_.pu≤b_.push∧b_.push≤h_.pu)) (fun h_ s_ a_ b_=>.bool (Hs.may h_ s_ a_ b_)) fun h_ s_ a_ b_ p w=>have ⟨h1,h2,h3⟩:=p _ rfl;l5May_any h_ s_ a_ b_ h1.1 h1.2 h2.1 h2.2 h3.1 h3.2 w
def isPair(w:World)(k:Int)(p q:Cm)(e:Ending)(w':World):Prop:=e=.returned (.agg #[I Z k,I Z p.push,.bool p.brk,.bool p.opn,I Z q.push,.bool q.brk,.bool q.opn])∧Below w.heap.size w w'
theorem l5Guard_any(h:Hs)(s:Sh)(a b:Cm)(kl:CarOk h s.lo)(ku:CarOk h s.up)(a1:-h.pu≤a.push)(a2:a.push≤h.pu)(b1:-h.pu≤b.push)(b2:b.push≤h.pu)(w:World) :
  Calls Tryz.prog 113 #[.agg #[I Z h.fl,I Z h.gp,I Z h.ln,I Z h.rf,I Z h.sp,I Z h.pu,I Z h.br,I Z h.dr,I Z h.lv,I Z h.dO,I Z h.ld,I Z h.qu],.agg #[I Z s.lo.pos,I Z s.lo.vel,I Z s.lo.door,I Z s.up.pos,I Z s.up.vel,I Z s.up.door],.agg #[I Z a.push,.bool a.brk,.bool a.opn],.agg #[I Z b.push,.bool b.brk,.bool b.opn]] w (isPair w 0 (Hs.grd h s a b).1 (Hs.grd h s a b).2):=by
 refine calls_ok mo (L:=[eBrake5,eMay]) Tryz.func113 (args:=[hv h,sv s,xv a,xv b]) (T:=((CarOk h s.lo∧CarOk h s.up)∧(-h.pu≤a.push∧a.push≤h.pu)∧-h.pu≤b.push∧b.push≤h.pu)∧cond (Hs.may h s a b) ((.agg #[I Z 0,I Z a.push,.bool a.brk,.bool a.opn,I Z b.push,.bool b.brk,.bool b.opn]:Value)=.agg #[I Z 0,I Z (((Hs.grd h s a b).1).push),.bool (((Hs.grd h s a b).1).brk),.bool (((Hs.grd h s a b).1).opn),I Z (((Hs.grd h s a b).2).push),.bool (((Hs.grd h s a b).2).brk),.bool (((Hs.grd h s a b).2).opn)]) (((CarOk h s.lo∧CarOk h s.up)∧(-h.pu≤(brkFor s.lo a).push∧(brkFor s.lo a).push≤h.pu)∧-h.pu≤b.push∧b.push≤h.pu)∧cond (Hs.may h s (brkFor s.lo a) b) ((.agg #[I Z 0,I Z ((brkFor s.lo a).push),.bool ((brkFor s.lo a).brk),.bool ((brkFor s.lo a).opn),I Z b.push,.bool b.brk,.bool b.opn]:Value)=.agg #[I Z 0,I Z (((Hs.grd h s a b).1).push),.bool (((Hs.grd h s a b).1).brk),.bool (((Hs.grd h s a b).1).opn),I Z (((Hs.grd h s a b).2).push),.bool (((Hs.grd h s a b).2).brk),.bool (((Hs.grd h s a b).2).opn)]) (((CarOk h s.lo∧CarOk h s.up)∧(-h.pu≤a.push∧a.push≤h.pu)∧-h.pu≤(brkFor s.up b).push∧(brkFor s.up b).push≤h.pu)∧cond (Hs.may h s a (brkFor s.up b)) ((.agg #[I Z 0,I Z a.push,.bool a.brk,.bool a.opn,I Z ((brkFor s.up b).push),.bool ((brkFor s.up b).brk),.bool ((brkFor s.up b).opn)]:Value)=.agg #[I Z 0,I Z (((Hs.grd h s a b).1).push),.bool (((Hs.grd h s a b).1).brk),.bool (((Hs.grd h s a b).1).opn),I Z (((Hs.grd h s a b).2).push),.bool (((Hs.grd h s a b).2).brk),.bool (((Hs.grd h s a b).2).opn)]) ((.agg #[I Z 0,I Z ((brkFor s.lo a).push),.bool ((brkFor s.lo a).brk),.bool ((brkFor s.lo a).opn),I Z ((brkFor s.up b).push),.bool ((brkFor s.up b).brk),.bool ((brkFor s.up b).opn)]:Value)=.agg #[I Z 0,I Z (((Hs.grd h s a b).1).push),.bool (((Hs.grd h s a b).1).brk),.bool (((Hs.grd h s a b).1).opn),I Z (((Hs.grd h s a b).2).push),.bool (((Hs.grd h s a b).2).brk),.bool (((Hs.grd h s a b).2).opn)])))) (by kernel_rfl) ?_ w
 have o:=kl.ok;have A:=o.all
 have B:∀ c x,-h.pu≤x.push→x.push≤h.pu→-h.pu≤(brkFor c x).push∧(brkFor c x).push≤h.pu:=fun c x h1 h2=>by unfold brkFor;split <;> (try dsimp only) <;> omega
 have B1:=B s.lo a a1 a2;have B2:=B s.up b b1 b2
 unfold Hs.grd
 repeat' first | exact o | exact kl | exact ku | refine if_b (fun _=>?_) (fun _=>?_) | refine iI ?_ | refine iB ?_ | refine congrArg xv ?_ | refine congrArg sv ?_ | refine congrArg mv ?_ | refine congrArg nv ?_ | apply And.intro
 all_goals try omega
 all_goals simp_all
def eGrd:Ent Tryz.prog:=e4 kH kS kX kX 113 (fun h_ s_ a_ b_=>some ((CarOk h_ s_.lo∧CarOk h_ s_.up)∧(-h_.pu≤a_.push∧a_.push≤h_.pu)∧-h_.pu≤b_.push∧b_.push≤h_.pu)) (fun h_ s_ a_ b_=>.agg #[I Z 0,I Z (((Hs.grd h_ s_ a_ b_).1).push),.bool (((Hs.grd h_ s_ a_ b_).1).brk),.bool (((Hs.grd h_ s_ a_ b_).1).opn),I Z (((Hs.grd h_ s_ a_ b_).2).push),.bool (((Hs.grd h_ s_ a_ b_).2).brk),.bool (((Hs.grd h_ s_ a_ b_).2).opn)]) fun h_ s_ a_ b_ p w=>have ⟨h1,h2,h3⟩:=p _ rfl;l5Guard_any h_ s_ a_ b_ h1.1 h1.2 h2.1 h2.2 h3.1 h3.2 w
theorem pair_zero{h:Hs}{s:Sh}{a b:Cm}(e:Hs.pairK h s a b=0):h.shaft s=0∧h.cmd a=0∧h.cmd b=0:=by
 unfold Hs.pairK at e
 split at e
 ·split at e
  ·exact ⟨by assumption,by assumption,e⟩
  ·exact absurd e (by assumption)
 ·exact absurd e (by assumption)
theorem pair_ok{h:Hs}{s:Sh}{a b:Cm}(e:Hs.pairK h s a b=0):CarOk h s.lo∧CarOk h s.up∧(-h.pu≤a.push∧a.push≤h.pu)∧(-h.pu≤b.push∧b.push≤h.pu):=by
 obtain ⟨e1,e2,e3⟩:=pair_zero e
 obtain ⟨k1,k2,_,_,_⟩:=shaft_parts e1
 have k:=Hs.car_zero k1
 exact ⟨k,Hs.car_zero k2,cmd_push k.hf e2,cmd_push k.hf e3⟩
theorem grd_push{h:Hs}(o:h.Ok)(s:Sh){a b:Cm}(a1:-h.pu≤a.push)(a2:a.push≤h.pu)(b1:-h.pu≤b.push)(b2:b.push≤h.pu) :
  (-h.pu≤(Hs.grd h s a b).1.push∧(Hs.grd h s a b).1.push≤h.pu)∧-h.pu≤(Hs.grd h s a b).2.push∧(Hs.grd h s a b).2.push≤h.pu:=by
 have A:=o.pu1
 have B:∀ c x,-h.pu≤x.push→x.push≤h.pu→-h.pu≤(brkFor c x).push∧(brkFor c x).push≤h.pu:=fun c x h1 h2=>by unfold brkFor;split <;> (try dsimp only) <;> omega
 have B1:=B s.lo a a1 a2;have B2:=B s.up b b1 b2
 unfold Hs.grd
 (repeat' split) <;> dsimp only <;> omega
theorem l5Step_any(h:Hs)(s:Sh)(a b:Cm)(d e:Int)(hk:Hs.pairK h s a b=0)(d1:-h.dr≤d)(d2:d≤h.dr)(e1:-h.dr≤e)(e2:e≤h.dr)(t:Sh)(ht:Hs.stepS h s a b d e=t)(w:World) :
  Calls Tryz.prog 70 #[.agg #[I Z h.fl,I Z h.gp,I Z h.ln,I Z h.rf,I Z h.sp,I Z h.pu,I Z h.br,I Z h.dr,I Z h.lv,I Z h.dO,I Z h.ld,I Z h.qu],.agg #[I Z s.lo.pos,I Z s.lo.vel,I Z s.lo.door,I Z s.up.pos,I Z s.up.vel,I Z s.up.door],.agg #[I Z a.push,.bool a.brk,.bool a.opn],.agg #[I Z b.push,.bool b.brk,.bool b.opn],I Z d,I Z e] w fun r w'=>r=.returned (.agg #[I Z t.lo.pos,I Z t.lo.vel,I Z t.lo.door,I Z t.up.pos,I Z t.up.vel,I Z t.up.door])∧Below w.heap.size w w':=by
 subst ht
 refine calls_ok mo (L:=[eGrd,eStep]) Tryz.func70 (args:=[hv h,sv s,xv a,xv b,I Z d,I Z e]) (T:=((CarOk h s.lo∧CarOk h s.up)∧(-h.pu≤a.push∧a.push≤h.pu)∧-h.pu≤b.push∧b.push≤h.pu)∧(CarOk h s.lo∧(-h.pu≤((Hs.grd h s a b).1).push∧((Hs.grd h s a b).1).push≤h.pu)∧-h.dr≤d∧d≤h.dr)∧(CarOk h s.up∧(-h.pu≤((Hs.grd h s a b).2).push∧((Hs.grd h s a b).2).push≤h.pu)∧-h.dr≤e∧e≤h.dr)∧sv (⟨(stepC h s.lo ((Hs.grd h s a b).1) d),(stepC h s.up ((Hs.grd h s a b).2) e)⟩:Sh)=sv (Hs.stepS h s a b d e)) (by kernel_rfl) ?_ w
 obtain ⟨kl,ku,a,b⟩:=pair_ok hk
 have o:=kl.ok;have A:=o.all
 have B:=grd_push kl.ok s a.1 a.2 b.1 b.2
 exact ⟨⟨⟨kl,ku⟩,a,b⟩,⟨kl,⟨B.1.1,B.1.2⟩,d1,d2⟩,⟨ku,⟨B.2.1,B.2.2⟩,e1,e2⟩,rfl⟩
theorem l8Phase_any(c:Cs)(p:Int)(hp:inB p 0 2=true)(w:World) :
  Calls Tryz.prog 36 #[.agg #[I Z c.pos,I Z c.vel,I Z c.door],I Z p] w fun e w'=>e=.returned (I Z (if c.door ≠ 0∧p=0 then 1 else 0))∧Below w.heap.size w w':=by
 refine calls_ok mo (L:=[eIn]) Tryz.func36 (args:=[cv c,I Z p]) (T:=cond (!(inB p (0:Int) (2:Int))) (IsI 3 (if c.door ≠ 0∧p=0 then 1 else 0)) (cond (c.door != 0) (cond (p == 0) (IsI 1 (if c.door ≠ 0∧p=0 then 1 else 0)) (IsI 0 (if c.door ≠ 0∧p=0 then 1 else 0))) (IsI 0 (if c.door ≠ 0∧p=0 then 1 else 0)))) (by kernel_rfl) ?_ w
 repeat' first | exact o | exact kl | exact ku | refine if_b (fun _=>?_) (fun _=>?_) | refine iI ?_ | refine iB ?_ | refine congrArg xv ?_ | refine congrArg sv ?_ | refine congrArg mv ?_ | refine congrArg nv ?_ | apply And.intro
 all_goals simp_all
theorem specAimOf_any(x:Sp)(g:Int)(w:World) :
  Calls Tryz.prog 69 #[.agg #[I Z x.lo,I Z x.hi],I Z g] w fun e w'=>e=.returned (I Z (aimS x g))∧Below w.heap.size w w':=by
 refine calls_ok mo (L:=[eMin,eMax]) Tryz.func69 (args:=[mv x,I Z g]) (T:=IsI (max x.lo (min x.hi g)) (aimS x g)) (by kernel_rfl) ?_ w
 exact rfl
theorem specSpansFault_any(h:Hs)(x:Ss)(w:World) :
  Calls Tryz.prog 35 #[.agg #[I Z h.fl,I Z h.gp,I Z h.ln,I Z h.rf,I Z h.sp,I Z h.pu,I Z h.br,I Z h.dr,I Z h.lv,I Z h.dO,I Z h.ld,I Z h.qu],.agg #[I Z x.l.lo,I Z x.l.hi,I Z x.u.lo,I Z x.u.hi]] w fun e w'=>e=.returned (I Z (Hs.spans h x))∧Below w.heap.size w w':=by
 refine calls_ok mo (L:=[eFault,eIn]) Tryz.func35 (args:=[hv h,nv x]) (T:=cond (h.fault != 0) (IsI h.fault (Hs.spans h x)) (cond (!(!(inB x.l.lo ((-1):Int) h.fl))) (cond (!(!(inB x.l.hi ((-1):Int) h.fl))) (cond (!(!(inB x.u.lo ((-1):Int) h.fl))) (cond (!(inB x.u.hi ((-1):Int) h.fl)) (IsI 3 (Hs.spans h x)) (cond (!(decide (x.l.lo > x.l.hi))) (cond (!(decide (x.u.lo > x.u.hi))) (cond (decide (x.l.hi ≥ x.u.lo)) (IsI 1 (Hs.spans h x)) (IsI 0 (Hs.spans h x))) (IsI 1 (Hs.spans h x))) (IsI 1 (Hs.spans h x)))) (IsI 3 (Hs.spans h x))) (IsI 3 (Hs.spans h x))) (IsI 3 (Hs.spans h x)))) (by kernel_rfl) ?_ w
 unfold Hs.spans
 repeat' first | exact o | exact kl | exact ku | refine if_b (fun _=>?_) (fun _=>?_) | refine iI ?_ | refine iB ?_ | refine congrArg xv ?_ | refine congrArg sv ?_ | refine congrArg mv ?_ | refine congrArg nv ?_ | apply And.intro
 all_goals simp_all [Hs.spanC,Hs.spanR,spanB]
theorem l6Extend_any(x:Ss)(a b:Int)(a1:-1000≤x.l.hi)(a2:x.l.hi≤1000)(a3:-1000≤x.u.lo)(a4:x.u.lo≤1000)(a5:-1000≤a)(a6:a≤1000)(y:Ss)(hy:extS x a b=y)(w:World) :
  Calls Tryz.prog 67 #[.agg #[I Z x.l.lo,I Z x.l.hi,I Z x.u.lo,I Z x.u.hi],I Z a,I Z b] w fun e w'=>e=.returned (.agg #[I Z y.l.lo,I Z y.l.hi,I Z y.u.lo,I Z y.u.hi])∧Below w.heap.size w w':=by
 subst hy
 refine calls_ok mo (L:=[eMin,eMax]) Tryz.func67 (args:=[nv x,I Z a,I Z b]) (T:=nv (⟨(⟨(min x.l.lo a),(max x.l.hi (min a (IntKind.i64.wrap (x.u.lo - 1))))⟩:Sp),(⟨(min x.u.lo (max b (IntKind.i64.wrap ((max x.l.hi (min a (IntKind.i64.wrap (x.u.lo - 1)))) + 1)))),(max x.u.hi b)⟩:Sp)⟩:Ss)=nv (extS x a b)) (by kernel_rfl) ?_ w
 simp (disch:=omega) only [w64]
 rfl
theorem l6Cut_any(x y z:Sp)(hz:cutS x y=z)(w:World) :
  Calls Tryz.prog 118 #[.agg #[I Z x.lo,I Z x.hi],.agg #[I Z y.lo,I Z y.hi]] w fun e w'=>e=.returned (.agg #[I Z z.lo,I Z z.hi])∧Below w.heap.size w w':=by
 subst hz
 refine calls_ok mo (L:=[eMax,eMin]) Tryz.func118 (args:=[mv x,mv y]) (T:=cond (decide ((max x.lo y.lo) > (min x.hi y.hi))) (mv x=mv (cutS x y)) (mv (⟨(max x.lo y.lo),(min x.hi y.hi)⟩:Sp)=mv (cutS x y))) (by kernel_rfl) ?_ w
 unfold cutS
 repeat' first | exact o | exact kl | exact ku | refine if_b (fun _=>?_) (fun _=>?_) | refine iI ?_ | refine iB ?_ | refine congrArg xv ?_ | refine congrArg sv ?_ | refine congrArg mv ?_ | refine congrArg nv ?_ | apply And.intro
 all_goals simp_all
 all_goals omega
def eCut:Ent Tryz.prog:=e2 kM kM 118 (fun x_ y_=>none) (fun x_ y_=>.agg #[I Z ((cutS x_ y_).lo),I Z ((cutS x_ y_).hi)]) fun x_ y_ p w=>l6Cut_any x_ y_ _ rfl w
theorem spans_zero{h:Hs}{x:Ss}(e:Hs.spans h x=0):h.fault=0∧-1≤x.l.lo∧x.l.lo≤x.l.hi∧x.l.hi < x.u.lo∧x.u.lo≤x.u.hi∧x.u.hi≤h.fl:=by
 unfold Hs.spans at e
 by_cases hf:h.fault=0
 ·rw [if_pos hf] at e
  refine ⟨hf,?_⟩
  unfold Hs.spanC at e
  by_cases hr:Hs.spanR h x=true
  ·rw [if_pos hr] at e
   by_cases hb:spanB x=true
   ·rw [if_pos hb] at e;omega
   ·unfold Hs.spanR at hr
    unfold spanB at hb
    simp only [Bool.and_eq_true,inB_iff] at hr
    simp only [Bool.or_eq_true,decide_eq_true_eq,not_or] at hb
    omega
  ·rw [if_neg hr] at e;omega
 ·rw [if_neg hf] at e;exact absurd e hf
end Go.Proofs.YteimojoicfjdjaaGreat
