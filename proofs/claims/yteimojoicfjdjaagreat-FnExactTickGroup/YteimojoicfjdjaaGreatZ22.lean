/- Parts of the proof: XMv. -/
import Derived.Test.YteimojoicfjdjaaGreatZ18
import Derived.Test.YteimojoicfjdjaaGreatZ21
namespace Go.Proofs.YteimojoicfjdjaaGreat
open Value renaming int → I
open IntKind renaming i64 → Z
open Go.RowKit Pl Sx
set_option linter.unusedVariables false
set_option linter.unusedSimpArgs false
theorem l1Max_any(a b:Int)(w:World) :
  Calls Tryz.prog 110 #[I Z a,I Z b] w fun e w'=>e=.returned (I Z (max a b))∧Below w.heap.size w w':=by
 refine calls_ok mo (L:=[]) Tryz.func110 (args:=[I Z a,I Z b]) (T:=cond (decide (a > b)) (IsI a (max a b)) (IsI b (max a b))) (by kernel_rfl) ?_ w
 refine if_b (fun e=>iI ?_) (fun e=>iI ?_) <;> (simp at e;omega)
def eMax:Ent Tryz.prog:=e2 kI kI 110 (fun a_ b_=>none) (fun a_ b_=>I Z (max a_ b_)) fun a_ b_ p w=>l1Max_any a_ b_ w
theorem l1Min_any(a b:Int)(w:World) :
  Calls Tryz.prog 111 #[I Z a,I Z b] w fun e w'=>e=.returned (I Z (min a b))∧Below w.heap.size w w':=by
 refine calls_ok mo (L:=[]) Tryz.func111 (args:=[I Z a,I Z b]) (T:=cond (decide (a < b)) (IsI a (min a b)) (IsI b (min a b))) (by kernel_rfl) ?_ w
 refine if_b (fun e=>iI ?_) (fun e=>iI ?_) <;> (simp at e;omega)
def eMin:Ent Tryz.prog:=e2 kI kI 111 (fun a_ b_=>none) (fun a_ b_=>I Z (min a_ b_)) fun a_ b_ p w=>l1Min_any a_ b_ w
theorem l1ClipM_any(v m:Int)(m0:0≤m)(m1:m≤1000000000000000)(w:World) :
  Calls Tryz.prog 163 #[I Z v,I Z m] w fun e w'=>e=.returned (I Z (clip m v))∧Below w.heap.size w w':=by
 refine calls_ok mo (L:=[eMin,eMax]) Tryz.func163 (args:=[I Z v,I Z m]) (T:=IsI (max (IntKind.i64.wrap (0 - m)) (min m v)) (clip m v)) (by kernel_rfl) ?_ w
 refine iI ?_
 rw [w64 (by omega) (by omega)]
 unfold clip;(repeat' split) <;> omega
def eClip:Ent Tryz.prog:=e2 kI kI 163 (fun v_ m_=>some (0≤m_∧m_≤1000000000000000)) (fun v_ m_=>I Z (clip m_ v_)) fun v_ m_ p w=>have ⟨h1,h2⟩:=p _ rfl;l1ClipM_any v_ m_ h1 h2 w
theorem l1Brake_any(v b:Int)(v1:-2000≤v)(v2:v≤2000)(b1:1≤b)(b2:b≤2000)(w:World) :
  Calls Tryz.prog 162 #[I Z v,I Z b] w fun e w'=>e=.returned (I Z (brk v b))∧Below w.heap.size w w':=by
 refine calls_ok mo (L:=[eMin,eMax]) Tryz.func162 (args:=[I Z v,I Z b]) (T:=cond (decide (v < 0)) (IsI (min (0:Int) (IntKind.i64.wrap (v + b))) (brk v b)) (IsI (max (0:Int) (IntKind.i64.wrap (v - b))) (brk v b))) (by kernel_rfl) ?_ w
 refine if_b (fun e=>iI ?_) (fun e=>iI ?_) <;> simp at e <;> rw [w64 (by omega) (by omega)] <;> unfold brk <;> (repeat' split) <;> omega
def eBrk:Ent Tryz.prog:=e2 kI kI 162 (fun v_ b_=>some ((-2000≤v_∧v_≤2000)∧1≤b_∧b_≤2000)) (fun v_ b_=>I Z (brk v_ b_)) fun v_ b_ p w=>have ⟨h1,h2⟩:=p _ rfl;l1Brake_any v_ b_ h1.1 h1.2 h2.1 h2.2 w
def eAbs:Ent Tryz.prog:=e1 kI 157 (fun a_=>some (-9223372036854775807≤a_∧a_≤9223372036854775807)) (fun a_=>I Z (absI a_)) fun a_ p w=>have ⟨h1,h2⟩:=p _ rfl;bw (l1Abs_any a_ h1 h2 w)
theorem l3Step_any(h:Hs)(c:Cs)(x:Cm)(d:Int)(k:CarOk h c)(x1:-h.pu≤x.push)(x2:x.push≤h.pu)(d1:-h.dr≤d)(d2:d≤h.dr)(g:Cs)(hg:stepC h c x d=g)(w:World) :
  Calls Tryz.prog 114 #[.agg #[I Z h.fl,I Z h.gp,I Z h.ln,I Z h.rf,I Z h.sp,I Z h.pu,I Z h.br,I Z h.dr,I Z h.lv,I Z h.dO,I Z h.ld,I Z h.qu],.agg #[I Z c.pos,I Z c.vel,I Z c.door],.agg #[I Z x.push,.bool x.brk,.bool x.opn],I Z d] w fun e w'=>e=.returned (.agg #[I Z g.pos,I Z g.vel,I Z g.door])∧Below w.heap.size w w':=by
 subst hg
 refine calls_ok mo (L:=[eMin,eBrk,eClip]) Tryz.func114 (args:=[hv h,cv c,xv x,I Z d]) (T:=cond (!(c.door != 0)) (cond x.opn (cond (c.vel == 0) (cond x.opn (cv (⟨c.pos,c.vel,(min h.dO (IntKind.i64.wrap (c.door + 1)))⟩:Cs)=cv (stepC h c x d)) (cv (⟨c.pos,c.vel,(IntKind.i64.wrap (c.door - 1))⟩:Cs)=cv (stepC h c x d))) (cond (!x.brk) (cond x.opn (((-2000≤c.vel∧c.vel≤2000)∧1≤h.br∧h.br≤2000)∧cv (⟨(IntKind.i64.wrap (c.pos + (brk c.vel h.br))),(brk c.vel h.br),c.door⟩:Cs)=cv (stepC h c x d)) ((0≤h.sp∧h.sp≤1000000000000000)∧cv (⟨(IntKind.i64.wrap (c.pos + (clip h.sp (IntKind.i64.wrap ((IntKind.i64.wrap (c.vel + x.push)) + d))))),(clip h.sp (IntKind.i64.wrap ((IntKind.i64.wrap (c.vel + x.push)) + d))),c.door⟩:Cs)=cv (stepC h c x d))) (((-2000≤c.vel∧c.vel≤2000)∧1≤h.br∧h.br≤2000)∧cv (⟨(IntKind.i64.wrap (c.pos + (brk c.vel h.br))),(brk c.vel h.br),c.door⟩:Cs)=cv (stepC h c x d)))) (cond (!x.brk) (cond x.opn (((-2000≤c.vel∧c.vel≤2000)∧1≤h.br∧h.br≤2000)∧cv (⟨(IntKind.i64.wrap (c.pos + (brk c.vel h.br))),(brk c.vel h.br),c.door⟩:Cs)=cv (stepC h c x d)) ((0≤h.sp∧h.sp≤1000000000000000)∧cv (⟨(IntKind.i64.wrap (c.pos + (clip h.sp (IntKind.i64.wrap ((IntKind.i64.wrap (c.vel + x.push)) + d))))),(clip h.sp (IntKind.i64.wrap ((IntKind.i64.wrap (c.vel + x.push)) + d))),c.door⟩:Cs)=cv (stepC h c x d))) (((-2000≤c.vel∧c.vel≤2000)∧1≤h.br∧h.br≤2000)∧cv (⟨(IntKind.i64.wrap (c.pos + (brk c.vel h.br))),(brk c.vel h.br),c.door⟩:Cs)=cv (stepC h c x d)))) (cond x.opn (cv (⟨c.pos,c.vel,(min h.dO (IntKind.i64.wrap (c.door + 1)))⟩:Cs)=cv (stepC h c x d)) (cv (⟨c.pos,c.vel,(IntKind.i64.wrap (c.door - 1))⟩:Cs)=cv (stepC h c x d)))) (by kernel_rfl) ?_ w
 have A:=k.all;have O:=k.ok.all
 have cb:=clip_bd h.sp (c.vel + x.push + d) (by omega);have bb:=brk_in c.vel h.br h.sp (by omega) (by omega) (by omega)
 repeat' first | refine if_b (fun _=>?_) (fun _=>?_) | apply And.intro | refine congrArg cv ?_
 all_goals try omega
 all_goals try simp (disch:=omega) only [w64] at *
 all_goals unfold stepC
 all_goals simp_all
 all_goals omega
def eStep:Ent Tryz.prog:=e4 kH kC kX kI 114 (fun h_ c_ x_ d_=>some (CarOk h_ c_∧(-h_.pu≤x_.push∧x_.push≤h_.pu)∧-h_.dr≤d_∧d_≤h_.dr)) (fun h_ c_ x_ d_=>.agg #[I Z ((stepC h_ c_ x_ d_).pos),I Z ((stepC h_ c_ x_ d_).vel),I Z ((stepC h_ c_ x_ d_).door)]) fun h_ c_ x_ d_ p w=>have ⟨h1,h2,h3⟩:=p _ rfl;l3Step_any h_ c_ x_ d_ h1 h2.1 h2.2 h3.1 h3.2 _ rfl w
theorem l3Stands_b(h:Hs)(c:Cs)(f:Int)(k:c.vel=0→h.Ok∧(0≤f∧f≤12)∧-100000000≤c.pos∧c.pos≤100000000)(w:World) :
  Calls Tryz.prog 106 #[.agg #[I Z h.fl,I Z h.gp,I Z h.ln,I Z h.rf,I Z h.sp,I Z h.pu,I Z h.br,I Z h.dr,I Z h.lv,I Z h.dO,I Z h.ld,I Z h.qu],.agg #[I Z c.pos,I Z c.vel,I Z c.door],I Z f] w fun e w'=>e=.returned (.bool ((c.vel == 0) && Hs.near h c f))∧Below w.heap.size w w':=by
 refine calls_ok mo (L:=[eLevel,eAbs]) Tryz.func106 (args:=[hv h,cv c,I Z f]) (T:=cond (c.vel == 0) ((h.Ok∧-1≤f∧f≤12)∧(-9223372036854775807≤(IntKind.i64.wrap (c.pos - (h.level f)))∧(IntKind.i64.wrap (c.pos - (h.level f)))≤9223372036854775807)∧IsB (decide ((absI (IntKind.i64.wrap (c.pos - (h.level f))))≤h.lv)) ((c.vel == 0) && Hs.near h c f)) (IsB false ((c.vel == 0) && Hs.near h c f))) (by kernel_rfl) ?_ w
 refine if_b (fun e=>?_) (fun e=>iB (by simp [e]))
 obtain ⟨o,⟨f1,f2⟩,p1,p2⟩:=k (by simpa using e)
 have:=o.level_bd f (by omega) f2
 rw [w64 (by omega) (by omega)]
 exact ⟨⟨o,by omega,by omega⟩,by omega,iB (by simp [e,Hs.near])⟩
theorem specNear_b(h:Hs)(o:h.Ok)(p:Int)(p1:-4611686018427387904≤p)(p2:p≤4611686018427387904)(w:World) :
  Calls Tryz.prog 156 #[.agg #[I Z h.fl,I Z h.gp,I Z h.ln,I Z h.rf,I Z h.sp,I Z h.pu,I Z h.br,I Z h.dr,I Z h.lv,I Z h.dO,I Z h.ld,I Z h.qu],I Z p] w fun e w'=>e=.returned (I Z (Hs.nearF h p (h.fl + 1).toNat))∧Below w.heap.size w w':=by
 refine (specNear_any h o p p1 p2 w).mono ?_
 rintro e w' ⟨r,hr,he,hb⟩
 have f1:=o.fl1
 have e:(((h.fl + 1).toNat:Nat):Int)=h.fl + 1:=by omega
 have b:=Hs.nearF_near h p (h.fl + 1).toNat
 rw [e] at b
 rw [b.one hr];exact ⟨he,hb⟩
def eNear:Ent Tryz.prog:=e2 kH kI 156 (fun h_ p_=>some (h_.Ok∧-4611686018427387904≤p_∧p_≤4611686018427387904)) (fun h_ p_=>I Z (Hs.nearF h_ p_ (h_.fl + 1).toNat)) fun h_ p_ p w=>have ⟨h1,h2,h3⟩:=p _ rfl;specNear_b h_ h1 p_ h2 h3 w
theorem l6At_any(h:Hs)(o:h.Ok)(c:Cs)(w:World) :
  Calls Tryz.prog 105 #[.agg #[I Z h.fl,I Z h.gp,I Z h.ln,I Z h.rf,I Z h.sp,I Z h.pu,I Z h.br,I Z h.dr,I Z h.lv,I Z h.dO,I Z h.ld,I Z h.qu],.agg #[I Z c.pos,I Z c.vel,I Z c.door]] w fun e w'=>e=.returned (I Z (Hs.at6 h c.pos))∧Below w.heap.size w w':=by
 refine calls_ok mo (L:=[eLevel,eMin,eMax,eNear]) Tryz.func105 (args:=[hv h,cv c]) (T:=(h.Ok∧-1≤((-1):Int)∧((-1):Int)≤12)∧(h.Ok∧-1≤h.fl∧h.fl≤12)∧(h.Ok∧-4611686018427387904≤(max (h.level ((-1):Int)) (min (h.level h.fl) c.pos))∧(max (h.level ((-1):Int)) (min (h.level h.fl) c.pos))≤4611686018427387904)∧IsI (Hs.nearF h (max (h.level ((-1):Int)) (min (h.level h.fl) c.pos)) (h.fl + 1).toNat) (Hs.at6 h c.pos)) (by kernel_rfl) ?_ w
 have A:=o.all;have:=o.level_bd (-1) (by omega) (by omega);have:=o.level_bd h.fl (by omega) (by omega)
 exact ⟨⟨o,by omega,by omega⟩,⟨o,by omega,by omega⟩,⟨o,by omega,by omega⟩,rfl⟩
def eAt6:Ent Tryz.prog:=e2 kH kC 105 (fun h_ c_=>some (h_.Ok)) (fun h_ c_=>I Z (Hs.at6 h_ c_.pos)) fun h_ c_ p w=>l6At_any h_ (p _ rfl) c_ w
theorem l8Floor_any(h:Hs)(o:h.Ok)(c:Cs)(w:World) :
  Calls Tryz.prog 109 #[.agg #[I Z h.fl,I Z h.gp,I Z h.ln,I Z h.rf,I Z h.sp,I Z h.pu,I Z h.br,I Z h.dr,I Z h.lv,I Z h.dO,I Z h.ld,I Z h.qu],.agg #[I Z c.pos,I Z c.vel,I Z c.door]] w fun e w'=>e=.returned (I Z (floor8 h c))∧Below w.heap.size w w':=by
 refine calls_ok mo (L:=[eAt6,eMin,eMax]) Tryz.func109 (args:=[hv h,cv c]) (T:=(h.Ok)∧IsI (max (0:Int) (min (IntKind.i64.wrap (h.fl - 1)) (Hs.at6 h c.pos))) (floor8 h c)) (by kernel_rfl) ?_ w
 have A:=o.all
 exact ⟨o,iI (by rw [w64 (by omega) (by omega)];rfl)⟩
theorem l6Sensed_any(h:Hs)(o:h.Ok)(s:Sh)(w:World) :
  Calls Tryz.prog 62 #[.agg #[I Z h.fl,I Z h.gp,I Z h.ln,I Z h.rf,I Z h.sp,I Z h.pu,I Z h.br,I Z h.dr,I Z h.lv,I Z h.dO,I Z h.ld,I Z h.qu],.agg #[I Z s.lo.pos,I Z s.lo.vel,I Z s.lo.door,I Z s.up.pos,I Z s.up.vel,I Z s.up.door]] w fun e w'=>e=.returned (.agg #[I Z (Hs.sensA h s),I Z (Hs.sensA h s),I Z (Hs.sensB h s),I Z (Hs.sensB h s)])∧Below w.heap.size w w':=by
 refine calls_ok mo (L:=[eAt6]) Tryz.func62 (args:=[hv h,sv s]) (T:=(h.Ok)∧(h.Ok)∧cond (decide ((Hs.at6 h s.up.pos)≤(Hs.at6 h s.lo.pos))) (cond (decide ((IntKind.i64.wrap ((Hs.at6 h s.lo.pos) + 1)) > h.fl)) (nv (⟨(⟨(IntKind.i64.wrap ((Hs.at6 h s.lo.pos) - 1)),(IntKind.i64.wrap ((Hs.at6 h s.lo.pos) - 1))⟩:Sp),(⟨(IntKind.i64.wrap ((IntKind.i64.wrap ((Hs.at6 h s.lo.pos) + 1)) - 1)),(IntKind.i64.wrap ((IntKind.i64.wrap ((Hs.at6 h s.lo.pos) + 1)) - 1))⟩:Sp)⟩:Ss)=nv (Hs.sensed h s)) (nv (⟨(⟨(Hs.at6 h s.lo.pos),(Hs.at6 h s.lo.pos)⟩:Sp),(⟨(IntKind.i64.wrap ((Hs.at6 h s.lo.pos) + 1)),(IntKind.i64.wrap ((Hs.at6 h s.lo.pos) + 1))⟩:Sp)⟩:Ss)=nv (Hs.sensed h s))) (cond (decide ((Hs.at6 h s.up.pos) > h.fl)) (nv (⟨(⟨(IntKind.i64.wrap ((Hs.at6 h s.lo.pos) - 1)),(IntKind.i64.wrap ((Hs.at6 h s.lo.pos) - 1))⟩:Sp),(⟨(IntKind.i64.wrap ((Hs.at6 h s.up.pos) - 1)),(IntKind.i64.wrap ((Hs.at6 h s.up.pos) - 1))⟩:Sp)⟩:Ss)=nv (Hs.sensed h s)) (nv (⟨(⟨(Hs.at6 h s.lo.pos),(Hs.at6 h s.lo.pos)⟩:Sp),(⟨(Hs.at6 h s.up.pos),(Hs.at6 h s.up.pos)⟩:Sp)⟩:Ss)=nv (Hs.sensed h s)))) (by kernel_rfl) ?_ w
 have A:=o.all;have:=Hs.at6_bd o s.lo.pos;have:=Hs.at6_bd o s.up.pos
 repeat' first | exact o | refine if_b (fun _=>?_) (fun _=>?_) | apply And.intro | refine congrArg nv ?_
 all_goals try simp (disch:=omega) only [w64] at *
 all_goals simp_all [Hs.sensed,Hs.sensA,Hs.sensB]
 all_goals omega
def isGoal(w:World)(k p q:Int)(e:Ending)(w':World):Prop:=e=.returned (.agg #[I Z k,I Z p,I Z q])∧Below w.heap.size w w'
theorem l6Goals_any(h:Hs)(o:h.Ok)(s:Sh)(lead goal other:Int)(g0:-100≤goal)(g1:goal≤100)(w:World) :
  Calls Tryz.prog 66 #[.agg #[I Z h.fl,I Z h.gp,I Z h.ln,I Z h.rf,I Z h.sp,I Z h.pu,I Z h.br,I Z h.dr,I Z h.lv,I Z h.dO,I Z h.ld,I Z h.qu],.agg #[I Z s.lo.pos,I Z s.lo.vel,I Z s.lo.door,I Z s.up.pos,I Z s.up.vel,I Z s.up.door],I Z lead,I Z goal,I Z other] w (isGoal w 0 (Hs.goals h s lead goal other).1 (Hs.goals h s lead goal other).2):=by
 refine calls_ok mo (L:=[eAt6,eMax,eMin]) Tryz.func66 (args:=[hv h,sv s,I Z lead,I Z goal,I Z other]) (T:=cond (lead == 0) (cond (!(other == (-2))) (cond (decide (other≤goal)) ((h.Ok)∧(.agg #[I Z 0,I Z goal,I Z (max (IntKind.i64.wrap (goal + 1)) (Hs.at6 h s.up.pos))]:Value)=.agg #[I Z 0,I Z ((Hs.goals h s lead goal other).1),I Z ((Hs.goals h s lead goal other).2)]) ((.agg #[I Z 0,I Z goal,I Z other]:Value)=.agg #[I Z 0,I Z ((Hs.goals h s lead goal other).1),I Z ((Hs.goals h s lead goal other).2)])) ((h.Ok)∧(.agg #[I Z 0,I Z goal,I Z (max (IntKind.i64.wrap (goal + 1)) (Hs.at6 h s.up.pos))]:Value)=.agg #[I Z 0,I Z ((Hs.goals h s lead goal other).1),I Z ((Hs.goals h s lead goal other).2)])) (cond (!(other == (-2))) (cond (decide (other ≥ goal)) ((h.Ok)∧(.agg #[I Z 0,I Z (min (IntKind.i64.wrap (goal - 1)) (Hs.at6 h s.lo.pos)),I Z goal]:Value)=.agg #[I Z 0,I Z ((Hs.goals h s lead goal other).1),I Z ((Hs.goals h s lead goal other).2)]) ((.agg #[I Z 0,I Z other,I Z goal]:Value)=.agg #[I Z 0,I Z ((Hs.goals h s lead goal other).1),I Z ((Hs.goals h s lead goal other).2)])) ((h.Ok)∧(.agg #[I Z 0,I Z (min (IntKind.i64.wrap (goal - 1)) (Hs.at6 h s.lo.pos)),I Z goal]:Value)=.agg #[I Z 0,I Z ((Hs.goals h s lead goal other).1),I Z ((Hs.goals h s lead goal other).2)]))) (by kernel_rfl) ?_ w
 have A:=o.all;have:=Hs.at6_bd o s.lo.pos;have:=Hs.at6_bd o s.up.pos
 unfold Hs.goals
 repeat' first | exact o | refine if_b (fun _=>?_) (fun _=>?_) | apply And.intro
 all_goals try simp (disch:=omega) only [w64] at *
 all_goals simp_all
 all_goals omega
end Go.Proofs.YteimojoicfjdjaaGreat
