/- Parts of the proof: XPt, XCa. -/
import Derived.Test.YteimojoicfjdjaaGreatZ35
import Derived.Test.YteimojoicfjdjaaGreatZ36
import Derived.Test.YteimojoicfjdjaaGreatZ45
import Derived.BigGuardPart
namespace Go.Proofs.YteimojoicfjdjaaGreat
set_option maxRecDepth 20000
open Value renaming int → I
open IntKind renaming i64 → Z
open Go.RowKit Pl Sx
set_option linter.unusedVariables false
set_option linter.unusedSimpArgs false
structure Tn where
 z:Int
 a:Int × Int × Int
 b:Int × Int × Int
 led:Bool
 g0:Int
 g1:Int
def tNum(t:Tn):List Value:=[I Z t.a.1,I Z t.a.2.1,I Z t.a.2.2,I Z t.b.1,I Z t.b.2.1,I Z t.b.2.2,.bool t.led,I Z t.g0,I Z t.g1]
def tRow(t:Tn):List Value:=.pointer (some ⟨1099511627776,0,none⟩) :: .pointer (some ⟨2199023255552,0,none⟩) :: I Z t.z :: tNum t
def tPh(gb g1 i:Nat)(t:Tn):List Value:=.pointer (some ⟨gb,0,none⟩) :: .pointer (some ⟨g1,i * 13,none⟩) :: I Z t.z :: tNum t
def pTn(a:Gp)(d:Dk)(t:Tn):Nat→Option Row:=fun q=>cond (Nat.beq q 2199023255553) (some (tRow t,0)) (gM a d q)
theorem pTn_own{a:Gp}{d:Dk}{t:Tn}:∀ q,Sx.isW q=false→pTn a d t q=none:=fun q hq=>by
 unfold pTn
 cases f:Nat.beq q 2199023255553
 ·exact gM_own a d q hq
 ·have:=Nat.eq_of_beq_eq_true f;subst this;cases hq
theorem tn_set(t:Tn)(j:Nat)(u v:Value)(hu:(tRow t)[j]? = some u)(hk:sameK u v=true):∃ t',(tRow t).set j v=tRow t':=by
 have hj:j < 12:=(List.getElem?_eq_some_iff.1 hu).1
 obtain ⟨z,⟨a,b,c⟩,⟨d,e,f⟩,l,g,h⟩:=t
 have hint:∀ x:Int,sameK (I Z x) v=true→∃ y,v=I Z y:=fun x hz=>by
  cases v with
  | int k n=>cases k <;> first | exact ⟨_,rfl⟩ | simp [sameK] at hz
  | _=>simp [sameK] at hz
 have hbool:∀ x:Bool,sameK (.bool x) v=true→∃ y,v=.bool y:=fun x hz=>by
  cases v with
  | bool b=>exact ⟨_,rfl⟩
  | _=>simp [sameK] at hz
 match j,hj with
 | 0,_=>cases hu;cases hk
 | 1,_=>cases hu;cases hk
 | 2,_=>cases hu;obtain ⟨y,rfl⟩:=hint _ hk;exact ⟨⟨y,⟨a,b,c⟩,⟨d,e,f⟩,l,g,h⟩,rfl⟩
 | 3,_=>cases hu;obtain ⟨y,rfl⟩:=hint _ hk;exact ⟨⟨z,⟨y,b,c⟩,⟨d,e,f⟩,l,g,h⟩,rfl⟩
 | 4,_=>cases hu;obtain ⟨y,rfl⟩:=hint _ hk;exact ⟨⟨z,⟨a,y,c⟩,⟨d,e,f⟩,l,g,h⟩,rfl⟩
 | 5,_=>cases hu;obtain ⟨y,rfl⟩:=hint _ hk;exact ⟨⟨z,⟨a,b,y⟩,⟨d,e,f⟩,l,g,h⟩,rfl⟩
 | 6,_=>cases hu;obtain ⟨y,rfl⟩:=hint _ hk;exact ⟨⟨z,⟨a,b,c⟩,⟨y,e,f⟩,l,g,h⟩,rfl⟩
 | 7,_=>cases hu;obtain ⟨y,rfl⟩:=hint _ hk;exact ⟨⟨z,⟨a,b,c⟩,⟨d,y,f⟩,l,g,h⟩,rfl⟩
 | 8,_=>cases hu;obtain ⟨y,rfl⟩:=hint _ hk;exact ⟨⟨z,⟨a,b,c⟩,⟨d,e,y⟩,l,g,h⟩,rfl⟩
 | 9,_=>cases hu;obtain ⟨y,rfl⟩:=hbool _ hk;exact ⟨⟨z,⟨a,b,c⟩,⟨d,e,f⟩,y,g,h⟩,rfl⟩
 | 10,_=>cases hu;obtain ⟨y,rfl⟩:=hint _ hk;exact ⟨⟨z,⟨a,b,c⟩,⟨d,e,f⟩,l,y,h⟩,rfl⟩
 | 11,_=>cases hu;obtain ⟨y,rfl⟩:=hint _ hk;exact ⟨⟨z,⟨a,b,c⟩,⟨d,e,f⟩,l,g,y⟩,rfl⟩
structure PS(w W0 W:World)(n B tb gb g1 g2:Nat)(a:Gp)(ds:List Dk)(i:Nat)(γ:List Pe)(t:Tn)(d:Dk):Prop where
 T:Blk W tb (tPh gb g1 i t)
 G:Gs W w B gb g1 a.c g2 a.c2 a.h (ds.set i d) a.nx γ a.tk a.rc
 F:Fr tb g1 g2 n W0 W
 L:γ.length=a.np
structure PX(n B tb gb g1 g2:Nat)(a:Gp)(ds:List Dk)(i:Nat):Prop where
 hn:ds.length=a.n
 hi:i < ds.length
 q1:tb ≠ gb
 q2:tb ≠ g1
 q3:tb ≠ g2
 l0:tb < n
 l1:gb < n
 l2:g1 < n
 l3:g2 < n
 lB:B≤tb
theorem Gs.turn{W w:World}{B gb g1 c1 g2 c2 tb j:Nat}{h:Hs}{ds:List Dk}{nx:Int}{ps:List Pe}{tk:Int}{rc:Bool}(G:Gs W w B gb g1 c1 g2 c2 h ds nx ps tk rc)(q1:tb ≠ gb)(q2:tb ≠ g1)(q3:tb ≠ g2)(lB:B≤tb)(v:Value):Gs (W.setCell ⟨tb,j,none⟩ v) w B gb g1 c1 g2 c2 h ds nx ps tk rc:=
 ⟨G.f.other (fun e=>q1 e.symm),G.d.other (p:=⟨tb,j,none⟩) (fun e=>q2 e.symm) _,G.p.other (p:=⟨tb,j,none⟩) (fun e=>q3 e.symm) _,G.n1,G.n2,G.n12,G.lo,G.fb.setCell (p:=⟨tb,j,none⟩) lB _⟩
theorem gM_rw{a:Gp}{D:Dk}{q:Nat}(h:isRW q=true)(k:(gM a D q).isSome=true):q=2199023255552:=by
 unfold gM at k
 have ne:∀ x,isRW x=false→Nat.beq q x=false:=fun x hx=>by
  cases f:Nat.beq q x
  ·rfl
  ·have:=Nat.eq_of_beq_eq_true f;subst this;rw [hx] at h;cases h
 rw [ne 1099511627776 (by decide),ne 1099511627777 (by decide),ne 1099511627778 (by decide)] at k
 cases e2:Nat.beq q 2199023255552
 ·rw [e2] at k;cases k
 ·exact Nat.eq_of_beq_eq_true e2
def pD(w W0:World){n B tb gb g1 g2:Nat}{a:Gp}{ds:List Dk}{i:Nat}(X:PX n B tb gb g1 g2 a ds i):Wd:=
 ((gD0 w W0 B tb gb g1 g2 n a ds i X.hn X.hi X.l1 X.l2 X.l3).add 2199023255553 tb (by decide) X.l0
  (fun q hq _ γ m w1 ⟨D,e,_⟩ hs=>by
   rw [e q (rw_w hq)] at hs
   cases gM_rw hq hs
   exact fun x=>X.q2 x.symm)
  (fun γ m w1 j v ⟨D,e,hl,hf,G⟩=>⟨D,e,hl,⟨by simpa using hf.size,fun k hk a b c=>(heap_setCell_other _ _ _ _ a).trans (hf.block k hk a b c)⟩,G.turn X.q1 X.q2 X.q3 X.lB v⟩) (fun cs=>∃ t,cs=tRow t) (fun cs j u v ⟨t,e⟩ hu hk=>by subst e;exact tn_set t j u v hu hk)).wd
theorem PS.of{w W0:World}{n B tb gb g1 g2:Nat}{a:Gp}{ds:List Dk}{i:Nat}{W:World}{γ:List Pe}{t:Tn}{d:Dk}(X:PX n B tb gb g1 g2 a ds i)(P:PS w W0 W n B tb gb g1 g2 a ds i γ t d):(pD w W0 X).J γ (pTn a d t) W:=
 have hq:∀ q,less 2199023255553 (pTn a d t) q=gM a d q:=fun q=>by
  simp only [less,pTn]
  cases f:Nat.beq q 2199023255553
  ·rfl
  ·have:=Nat.eq_of_beq_eq_true f;subst this;rfl
 ⟨tRow t,⟨t,rfl⟩,rfl,fun c hc=>by
  simp only [tRow,tNum,List.mem_cons,List.not_mem_nil,or_false] at hc
  rcases hc with rfl | rfl | rfl | rfl | rfl | rfl | rfl | rfl | rfl | rfl | rfl | rfl <;> first | exact ⟨rfl,trivial⟩ | exact ⟨by decide,by show (less _ _ _).isSome=true;rw [hq];rfl⟩,P.T,d,fun q _=>hq q,P.L,P.F,P.G⟩
theorem PS.to{w W0:World}{n B tb gb g1 g2:Nat}{a:Gp}{ds:List Dk}{i:Nat}{W:World}{γ γ1:List Pe}{m:Nat→Option Row}{t:Tn}{d:Dk}(X:PX n B tb gb g1 g2 a ds i)(hg:γ=γ1)(hr:m 2199023255552=some (cellsD d,0))(ht:m 2199023255553=some (tRow t,0))(h:(pD w W0 X).J γ m W):PS w W0 W n B tb gb g1 g2 a ds i γ1 t d:=by
 obtain ⟨cs,_,h1,_,h3,D,e,hl,hf,G⟩:=h
 rw [ht] at h1
 cases h1
 have e2:=e 2199023255552 (by decide)
 rw [gM_D] at e2
 have e3:less 2199023255553 m 2199023255552=m 2199023255552:=rfl
 rw [e3,hr] at e2
 cases dk_inj e2.symm
 subst hg
 exact ⟨h3,G,hf,hl⟩
def PT(vs:List Value)(γ:List Pe)(r q:Option Row)(vs1:List Value)(γ1:List Pe)(d1:Dk)(t1:Tn):Prop:=vs=vs1∧γ=γ1∧r=some (cellsD d1,0)∧q=some (tRow t1,0)
def wHouse(a:Gp):EntW:=⟨92,fun γ m az=>match az with
 | [.pointer (some ⟨b,0,none⟩)]=>cond (Nat.beq b 2199023255553) (some (none,hv a.h,none)) none
 | _=>none⟩
def c0W:Cf:=⟨[],fun _ _ _=>none,true,[]⟩
def cPr(a:Gp):Cf:=⟨[wHouse a],fun _ _ _=>none,true,[]⟩
theorem c0W_ok{D:Wd}:WOk Tryz.prog D c0W:=⟨fun f e h=>by simp [c0W,lookW] at h,fun f e h=>by simp [c0W,lookW] at h,fun T x i p v h=>by simp [c0W] at h,fun f e h=>by cases h⟩
def iRest:Ent Tryz.prog:=e3 kH kC kI 138 (fun h_ c_ f_=>some (h_.Ok∧(-1≤f_∧f_≤h_.fl)∧-100000000≤c_.pos∧c_.pos≤100000000)) (fun h_ c_ f_=>.bool ((c_.vel == 0) && Hs.near h_ c_ f_)) fun h_ c_ f_ p w=>have ⟨h1,h2,h3⟩:=p _ rfl;isAtRest_any h_ h1 c_ f_ h2.1 h2.2 h3.1 h3.2 w
def iSens:Ent Tryz.prog:=e2 kH kS 136 (fun h_ s_=>some (CarOk h_ s_.lo∧CarOk h_ s_.up)) (fun h_ s_=>.agg #[I Z (((Hs.sensed h_ s_).l).lo),I Z (((Hs.sensed h_ s_).l).hi),I Z (((Hs.sensed h_ s_).u).lo),I Z (((Hs.sensed h_ s_).u).hi)]) fun h_ s_ p w=>have ⟨h1,h2⟩:=p _ rfl;sensedSpans_any h_ s_ h1 h2 w
def iAim:Ent Tryz.prog:=e2 kM kI 147 (fun x_ g_=>some (x_.lo≤x_.hi)) (fun x_ g_=>I Z (aimS x_ g_)) fun x_ g_ p w=>implAimOf_any x_ g_ (p _ rfl) w
def iCF:Ent Tryz.prog:=e3 kH kC kI 146 (fun h_ c_ f_=>none) (fun h_ c_ f_=>.agg #[I Z ((Hs.cmdFor h_ c_ f_).push),.bool ((Hs.cmdFor h_ c_ f_).brk),.bool ((Hs.cmdFor h_ c_ f_).opn)]) fun h_ c_ f_ p w=>implCommandFor_any h_ c_ f_ w
theorem PX.up{n N B tb gb g1 g2:Nat}{a:Gp}{ds:List Dk}{i:Nat}(X:PX n B tb gb g1 g2 a ds i)(h:n≤N):PX N B tb gb g1 g2 a ds i:=⟨X.hn,X.hi,X.q1,X.q2,X.q3,Nat.lt_of_lt_of_le X.l0 h,Nat.lt_of_lt_of_le X.l1 h,Nat.lt_of_lt_of_le X.l2 h,Nat.lt_of_lt_of_le X.l3 h,X.lB⟩
theorem PS.re{w W0:World}{n B tb gb g1 g2:Nat}{a:Gp}{ds:List Dk}{i:Nat}{W:World}{γ:List Pe}{t:Tn}{d:Dk}(P:PS w W0 W n B tb gb g1 g2 a ds i γ t d):PS w W W W.heap.size B tb gb g1 g2 a ds i γ t d:=⟨P.T,P.G,Fr.refl _ _ _ _ _,P.L⟩
theorem PS.back{w W0:World}{n B tb gb g1 g2:Nat}{a:Gp}{ds:List Dk}{i:Nat}{W W':World}{γ γ':List Pe}{t t':Tn}{d d':Dk}(P:PS w W0 W n B tb gb g1 g2 a ds i γ t d)(hb:n≤W.heap.size)(Q:PS w W W' W.heap.size B tb gb g1 g2 a ds i γ' t' d'):PS w W0 W' n B tb gb g1 g2 a ds i γ' t' d':=⟨Q.T,Q.G,P.F.trans Q.F hb,Q.L⟩
theorem J_eq{w W0:World}{n B tb gb g1 g2:Nat}{a:Gp}{ds:List Dk}{i:Nat}{W:World}{γ:List Pe}{m:Nat→Option Row}(X:PX n B tb gb g1 g2 a ds i)(h:(pD w W0 X).J γ m W):∃ d t,PS w W0 W n B tb gb g1 g2 a ds i γ t d∧∀ q,Sx.isW q=true→m q=pTn a d t q:=by
 obtain ⟨cs,⟨t,rfl⟩,h1,_,h3,D,e,hl,hf,G⟩:=h
 refine ⟨D,t,⟨h3,G,hf,hl⟩,fun q hq=>?_⟩
 unfold pTn
 cases f:Nat.beq q 2199023255553
 ·exact (less_ne f).symm.trans (e q hq)
 ·have:=Nat.eq_of_beq_eq_true f;subst this;exact h1
theorem house_0{w W0:World}{n B tb gb g1 g2:Nat}{a:Gp}{ds:List Dk}{i:Nat}(X:PX n B tb gb g1 g2 a ds i)(d:Dk)(t:Tn)(ps:List Pe)(W:World)(hb:n≤W.heap.size)(P:PS w W0 W n B tb gb g1 g2 a ds i ps t d) :
  Calls Tryz.prog 92 #[.pointer (some ⟨tb,0,none⟩)] W fun e w'=>e=.returned (hv a.h)∧PS w W0 w' n B tb gb g1 g2 a ds i ps t d:=by
 have hC:WOk Tryz.prog (pD w W0 X) (c0W):=c0W_ok
 refine (runs_ok (L:=[]) (C:=c0W) mo hC Tryz.func92 (args:=[.pointer (some ⟨2199023255553,0,none⟩)]) (m:=pTn a d t) (g:=ps) (Post:=(fun vs s=>PT vs s.g (s.m 2199023255552) (s.m 2199023255553) [hv a.h] ps (d) (t))) (T:=PT [.agg #[I Z a.h.fl,I Z a.h.gp,I Z a.h.ln,I Z a.h.rf,I Z a.h.sp,I Z a.h.pu,I Z a.h.br,I Z a.h.dr,I Z a.h.lv,I Z a.h.dO,I Z a.h.ld,I Z a.h.qu]] ps (some (cellsD d,0)) (some ([.pointer (some ⟨1099511627776,0,none⟩),.pointer (some ⟨2199023255552,0,none⟩),I Z t.z,I Z t.a.1,I Z t.a.2.1,I Z t.a.2.2,I Z t.b.1,I Z t.b.2.1,I Z t.b.2.2,.bool t.led,I Z t.g0,I Z t.g1],0)) [hv a.h] ps (d) (t)) (by kernel_rfl) ?_ W hb pTn_own (PS.of X P)).mono ?_
 ·exact ⟨rfl,rfl,rfl,rfl⟩
 ·rintro e w' ⟨vs,s,rfl,⟨rfl,hg,hr,ht⟩,hJ,_⟩
  exact ⟨rfl,PS.to X hg hr ht hJ⟩
theorem house_w{w W0:World}{n B tb gb g1 g2:Nat}{a:Gp}{ds:List Dk}{i:Nat}(X:PX n B tb gb g1 g2 a ds i){γ:List Pe}{m:Nat→Option Row}(W:World)(hb:n≤W.heap.size)(J:(pD w W0 X).J γ m W):Calls Tryz.prog 92 #[.pointer (some ⟨tb,0,none⟩)] W fun e w'=>e=.returned (hv a.h)∧(pD w W0 X).J γ m w'∧Kept n W w':=by
 obtain ⟨d,t,P,hm⟩:=J_eq X J
 refine (house_0 (X.up hb) d t γ W (Nat.le_refl _) P.re).mono ?_
 rintro e w' ⟨rfl,Q⟩
 exact ⟨rfl,(pD w W0 X).ext _ _ _ _ hm (PS.of X (P.back hb Q)),Q.F.kept X.l0 X.l2 X.l3⟩
theorem cPr_ok{w W0:World}{n B tb gb g1 g2:Nat}{a:Gp}{ds:List Dk}{i:Nat}(X:PX n B tb gb g1 g2 a ds i):WOk Tryz.prog (pD w W0 X) (cPr a):=by
 refine ⟨fun f e he=>?_,fun f e he=>?_,fun T x i p v h=>by simp [cPr] at h,fun f e h=>by cases h⟩
 ·obtain ⟨hm,rfl⟩:=lookW_mem he
  simp only [cPr,List.mem_cons,List.not_mem_nil,or_false] at hm
  refine ⟨rfl,?_⟩
  subst hm
  intro γ m az p v g hsp hp w1 hb1 J
  simp only [wHouse] at hsp
  split at hsp
  ·rename_i b
   cases hb:Nat.beq b 2199023255553 <;> rw [hb] at hsp <;> simp only [cond_false,cond_true,reduceCtorEq,Option.some.injEq,Prod.mk.injEq] at hsp
   obtain ⟨rfl,rfl,rfl⟩:=hsp
   cases Nat.eq_of_beq_eq_true hb
   exact house_w X w1 (show n≤_ from hb1) J
  ·cases hsp
 ·obtain ⟨hm,_⟩:=lookW_mem he
  simp only [cPr,List.mem_cons,List.not_mem_nil,or_false] at hm
  subst hm
  intro γ m m' az h1
  rfl
theorem isStanding_w{w W0:World}{n B tb gb g1 g2:Nat}{a:Gp}{ds:List Dk}{i:Nat}(X:PX n B tb gb g1 g2 a ds i)(d:Dk)(t:Tn)(ps:List Pe)(W:World)(hb:n≤W.heap.size)(P:PS w W0 W n B tb gb g1 g2 a ds i ps t d) :
  Calls Tryz.prog 85 #[.pointer (some ⟨tb,0,none⟩)] W fun e w'=>e=.returned (.bool ((d.sh.lo.vel == 0) && (d.sh.up.vel == 0)))∧PS w W0 w' n B tb gb g1 g2 a ds i ps t d:=by
 have hC:WOk Tryz.prog (pD w W0 X) (cPr a):=cPr_ok X
 refine (runs_ok (L:=[]) (C:=cPr a) mo hC Tryz.func85 (args:=[.pointer (some ⟨2199023255553,0,none⟩)]) (m:=pTn a d t) (g:=ps) (Post:=(fun vs s=>PT vs s.g (s.m 2199023255552) (s.m 2199023255553) [.bool ((d.sh.lo.vel == 0) && (d.sh.up.vel == 0))] ps (d) (t))) (T:=jn (fun (J1:Bool→Prop)=>cond (d.sh.lo.vel == 0) ((J1 (d.sh.up.vel == 0))) ((J1 false))) (fun (y1_0:Bool)=>PT [.bool y1_0] ps (some (cellsD d,0)) (some ([.pointer (some ⟨1099511627776,0,none⟩),.pointer (some ⟨2199023255552,0,none⟩),I Z t.z,I Z t.a.1,I Z t.a.2.1,I Z t.a.2.2,I Z t.b.1,I Z t.b.2.1,I Z t.b.2.2,.bool t.led,I Z t.g0,I Z t.g1],0)) [.bool ((d.sh.lo.vel == 0) && (d.sh.up.vel == 0))] ps (d) (t))) (by kernel_rfl) ?_ W hb pTn_own (PS.of X P)).mono ?_
 ·refine jn_of (fun J=>J ((d.sh.lo.vel == 0) && (d.sh.up.vel == 0))) ?_ (fun J hJ=>?_)
  ·exact ⟨rfl,rfl,rfl,rfl⟩
  ·refine if_b (fun e=>?_) (fun e=>?_) <;> simpa [e] using hJ
 ·rintro e w' ⟨vs,s,rfl,⟨rfl,hg,hr,ht⟩,hJ,_⟩
  exact ⟨rfl,PS.to X hg hr ht hJ⟩
theorem letGo_w{w W0:World}{n B tb gb g1 g2:Nat}{a:Gp}{ds:List Dk}{i:Nat}(X:PX n B tb gb g1 g2 a ds i)(d:Dk)(t:Tn)(ps:List Pe)(ka:CarOk a.h d.sh.lo)(kb:CarOk a.h d.sh.up)(W:World)(hb:n≤W.heap.size)(P:PS w W0 W n B tb gb g1 g2 a ds i ps t d) :
  Calls Tryz.prog 86 #[.pointer (some ⟨tb,0,none⟩)] W fun e w'=>e=.returned (.tuple #[])∧PS w W0 w' n B tb gb g1 g2 a ds i ps t ⟨d.sh,Hs.sensed a.h d.sh,d.pl,d.pu,false⟩:=by
 have hC:WOk Tryz.prog (pD w W0 X) (cPr a):=cPr_ok X
 refine (runs_ok (L:=[iSens]) (C:=cPr a) mo hC Tryz.func86 (args:=[.pointer (some ⟨2199023255553,0,none⟩)]) (m:=pTn a d t) (g:=ps) (Post:=(fun vs s=>PT vs s.g (s.m 2199023255552) (s.m 2199023255553) [] ps (⟨d.sh,Hs.sensed a.h d.sh,d.pl,d.pu,false⟩) (t))) (T:=∀ x1:Int,x1=a.h.fl→∀ x2:Int,x2=a.h.gp→∀ x3:Int,x3=a.h.ln→∀ x4:Int,x4=a.h.rf→∀ x5:Int,x5=a.h.sp→∀ x6:Int,x6=a.h.pu→∀ x7:Int,x7=a.h.br→∀ x8:Int,x8=a.h.dr→∀ x9:Int,x9=a.h.lv→∀ x10:Int,x10=a.h.dO→∀ x11:Int,x11=a.h.ld→∀ x12:Int,x12=a.h.qu→(CarOk (⟨x1,x2,x3,x4,x5,x6,x7,x8,x9,x10,x11,x12⟩:Hs) d.sh.lo∧CarOk (⟨x1,x2,x3,x4,x5,x6,x7,x8,x9,x10,x11,x12⟩:Hs) d.sh.up)∧(∀ x13:Int,x13=((Hs.sensed (⟨x1,x2,x3,x4,x5,x6,x7,x8,x9,x10,x11,x12⟩:Hs) d.sh).l).lo→∀ x14:Int,x14=((Hs.sensed (⟨x1,x2,x3,x4,x5,x6,x7,x8,x9,x10,x11,x12⟩:Hs) d.sh).l).hi→∀ x15:Int,x15=((Hs.sensed (⟨x1,x2,x3,x4,x5,x6,x7,x8,x9,x10,x11,x12⟩:Hs) d.sh).u).lo→∀ x16:Int,x16=((Hs.sensed (⟨x1,x2,x3,x4,x5,x6,x7,x8,x9,x10,x11,x12⟩:Hs) d.sh).u).hi→PT [] ps (some (cellsD (⟨d.sh,(⟨(⟨x13,x14⟩:Sp),(⟨x15,x16⟩:Sp)⟩:Ss),d.pl,d.pu,false⟩:Dk),0)) (some ([.pointer (some ⟨1099511627776,0,none⟩),.pointer (some ⟨2199023255552,0,none⟩),I Z t.z,I Z t.a.1,I Z t.a.2.1,I Z t.a.2.2,I Z t.b.1,I Z t.b.2.1,I Z t.b.2.2,.bool t.led,I Z t.g0,I Z t.g1],0)) [] ps (⟨d.sh,Hs.sensed a.h d.sh,d.pl,d.pu,false⟩) (t))) (by kernel_rfl) ?_ W hb pTn_own (PS.of X P)).mono ?_
 ·rintro x1 rfl x2 rfl x3 rfl x4 rfl x5 rfl x6 rfl x7 rfl x8 rfl x9 rfl x10 rfl x11 rfl x12 rfl
  refine ⟨⟨ka,kb⟩,?_⟩
  rintro x13 rfl x14 rfl x15 rfl x16 rfl
  exact ⟨rfl,rfl,rfl,rfl⟩
 ·rintro e w' ⟨vs,s,rfl,⟨rfl,hg,hr,ht⟩,hJ,_⟩
  exact ⟨rfl,PS.to X hg hr ht hJ⟩
def opn8(h:Hs)(n:Int × Int × Int)(c:Cs)(ph:Int):Int:=if ph=0∧n.1=0∧((c.vel == 0) && Hs.near h c n.2.2)=true then 1 else ph
def cmd8(h:Hs)(t:Tn)(c:Cs)(x:Sp)(ph g:Int):Cm:=if ph=1 then ⟨0,false,true⟩ else if ph=2 then ⟨0,false,false⟩ else if t.led=false then ⟨0,true,false⟩ else Hs.cmdFor h c (aimS x g)
theorem open0_w{w W0:World}{n B tb gb g1 g2:Nat}{a:Gp}{ds:List Dk}{i:Nat}(X:PX n B tb gb g1 g2 a ds i)(d:Dk)(t:Tn)(ps:List Pe)(o:a.h.Ok)(nf:t.a.1=0→-1≤t.a.2.2∧t.a.2.2≤a.h.fl)(p1:-100000000≤d.sh.lo.pos)(p2:d.sh.lo.pos≤100000000)(W:World)(hb:n≤W.heap.size)(P:PS w W0 W n B tb gb g1 g2 a ds i ps t d) :
  Calls Tryz.prog 88 #[.agg #[.pointer (some ⟨tb,0,none⟩),I Z 0,.pointer (some ⟨g1,i * 13,none⟩),.pointer (some ⟨g1,i * 13 + 6,none⟩),.pointer (some ⟨g1,i * 13 + 10,none⟩)]] W fun e w'=>e=.returned (.tuple #[])∧PS w W0 w' n B tb gb g1 g2 a ds i ps t ⟨d.sh,d.sp,(opn8 a.h t.a d.sh.lo d.pl),d.pu,d.hd⟩:=by
 have hC:WOk Tryz.prog (pD w W0 X) (cPr a):=cPr_ok X
 refine (runs_ok (L:=[iRest]) (C:=cPr a) mo hC Tryz.func88 (args:=[.agg #[.pointer (some ⟨2199023255553,0,none⟩),I Z 0,.pointer (some ⟨2199023255552,0,none⟩),.pointer (some ⟨2199023255552,6,none⟩),.pointer (some ⟨2199023255552,10,none⟩)]]) (m:=pTn a d t) (g:=ps) (Post:=(fun vs s=>PT vs s.g (s.m 2199023255552) (s.m 2199023255553) [] ps (⟨d.sh,d.sp,(opn8 a.h t.a d.sh.lo d.pl),d.pu,d.hd⟩) (t))) (T:=jn (fun (J1:Bool→Prop)=>cond (d.pl == 0) (cond (t.a.1 == 0) (∀ x1:Int,x1=a.h.fl→∀ x2:Int,x2=a.h.gp→∀ x3:Int,x3=a.h.ln→∀ x4:Int,x4=a.h.rf→∀ x5:Int,x5=a.h.sp→∀ x6:Int,x6=a.h.pu→∀ x7:Int,x7=a.h.br→∀ x8:Int,x8=a.h.dr→∀ x9:Int,x9=a.h.lv→∀ x10:Int,x10=a.h.dO→∀ x11:Int,x11=a.h.ld→∀ x12:Int,x12=a.h.qu→((⟨x1,x2,x3,x4,x5,x6,x7,x8,x9,x10,x11,x12⟩:Hs).Ok∧(-1≤t.a.2.2∧t.a.2.2≤(⟨x1,x2,x3,x4,x5,x6,x7,x8,x9,x10,x11,x12⟩:Hs).fl)∧-100000000≤d.sh.lo.pos∧d.sh.lo.pos≤100000000)∧(∀ x13:Bool,x13=((d.sh.lo.vel == 0) && Hs.near (⟨x1,x2,x3,x4,x5,x6,x7,x8,x9,x10,x11,x12⟩:Hs) d.sh.lo t.a.2.2)→(J1 x13))) ((J1 false))) ((J1 false))) (fun (y1_0:Bool)=>jn (fun (J2:Int→Prop)=>cond y1_0 ((J2 1)) ((J2 d.pl))) (fun (y2_0:Int)=>PT [] ps (some (cellsD (⟨d.sh,d.sp,y2_0,d.pu,d.hd⟩:Dk),0)) (some ([.pointer (some ⟨1099511627776,0,none⟩),.pointer (some ⟨2199023255552,0,none⟩),I Z t.z,I Z t.a.1,I Z t.a.2.1,I Z t.a.2.2,I Z t.b.1,I Z t.b.2.1,I Z t.b.2.2,.bool t.led,I Z t.g0,I Z t.g1],0)) [] ps (⟨d.sh,d.sp,(opn8 a.h t.a d.sh.lo d.pl),d.pu,d.hd⟩) (t)))) (by kernel_rfl) ?_ W hb pTn_own (PS.of X P)).mono ?_
 ·refine jn_of (fun J=>J (decide (d.pl=0∧t.a.1=0∧((d.sh.lo.vel == 0) && Hs.near a.h d.sh.lo t.a.2.2)=true))) ?_ (fun J hJ=>?_)
  ·refine jn_of (fun J=>J (opn8 a.h t.a d.sh.lo d.pl)) ⟨rfl,rfl,rfl,rfl⟩ (fun J hJ=>?_)
   refine if_b (fun q=>?_) (fun q=>?_)
   ·rw [opn8,if_pos (of_decide_eq_true q)] at hJ;exact hJ
   ·rw [opn8,if_neg (of_decide_eq_false q)] at hJ;exact hJ
  ·refine if_b (fun e=>if_b (fun e2=>?_) (fun e2=>?_)) (fun e=>?_)
   ·rintro x1 rfl x2 rfl x3 rfl x4 rfl x5 rfl x6 rfl x7 rfl x8 rfl x9 rfl x10 rfl x11 rfl x12 rfl
    refine ⟨⟨o,nf (by simpa using e2),p1,p2⟩,?_⟩
    rintro x13 rfl
    have e':decide (d.pl=0∧t.a.1=0∧((d.sh.lo.vel == 0) && Hs.near a.h d.sh.lo t.a.2.2)=true)=((d.sh.lo.vel == 0) && Hs.near a.h d.sh.lo t.a.2.2):=by
     simp at e e2;cases hz:(d.sh.lo.vel == 0) && Hs.near a.h d.sh.lo t.a.2.2 <;> simp_all
    rw [e'] at hJ;exact hJ
   ·simp at e2;simpa [e2] using hJ
   ·simp at e;simpa [e] using hJ
 ·rintro e w' ⟨vs,s,rfl,⟨rfl,hg,hr,ht⟩,hJ,_⟩
  exact ⟨rfl,PS.to X hg hr ht hJ⟩
theorem cmd0_w{w W0:World}{n B tb gb g1 g2:Nat}{a:Gp}{ds:List Dk}{i:Nat}(X:PX n B tb gb g1 g2 a ds i)(d:Dk)(t:Tn)(ps:List Pe)(sl:d.sp.l.lo≤d.sp.l.hi)(W:World)(hb:n≤W.heap.size)(P:PS w W0 W n B tb gb g1 g2 a ds i ps t d) :
  Calls Tryz.prog 93 #[.agg #[.pointer (some ⟨tb,0,none⟩),I Z 0,.pointer (some ⟨g1,i * 13,none⟩),.pointer (some ⟨g1,i * 13 + 6,none⟩),.pointer (some ⟨g1,i * 13 + 10,none⟩)]] W fun e w'=>e=.returned (xv (cmd8 a.h t d.sh.lo d.sp.l d.pl t.g0))∧PS w W0 w' n B tb gb g1 g2 a ds i ps t d:=by
 have hC:WOk Tryz.prog (pD w W0 X) (cPr a):=cPr_ok X
 refine (runs_ok (L:=[iAim,iCF]) (C:=cPr a) mo hC Tryz.func93 (args:=[.agg #[.pointer (some ⟨2199023255553,0,none⟩),I Z 0,.pointer (some ⟨2199023255552,0,none⟩),.pointer (some ⟨2199023255552,6,none⟩),.pointer (some ⟨2199023255552,10,none⟩)]]) (m:=pTn a d t) (g:=ps) (Post:=(fun vs s=>PT vs s.g (s.m 2199023255552) (s.m 2199023255553) [xv (cmd8 a.h t d.sh.lo d.sp.l d.pl t.g0)] ps (d) (t))) (T:=cond (d.pl == 1) (PT [.agg #[I Z 0,.bool false,.bool true]] ps (some (cellsD d,0)) (some ([.pointer (some ⟨1099511627776,0,none⟩),.pointer (some ⟨2199023255552,0,none⟩),I Z t.z,I Z t.a.1,I Z t.a.2.1,I Z t.a.2.2,I Z t.b.1,I Z t.b.2.1,I Z t.b.2.2,.bool t.led,I Z t.g0,I Z t.g1],0)) [xv (cmd8 a.h t d.sh.lo d.sp.l d.pl t.g0)] ps (d) (t)) (cond (d.pl == 2) (PT [.agg #[I Z 0,.bool false,.bool false]] ps (some (cellsD d,0)) (some ([.pointer (some ⟨1099511627776,0,none⟩),.pointer (some ⟨2199023255552,0,none⟩),I Z t.z,I Z t.a.1,I Z t.a.2.1,I Z t.a.2.2,I Z t.b.1,I Z t.b.2.1,I Z t.b.2.2,.bool t.led,I Z t.g0,I Z t.g1],0)) [xv (cmd8 a.h t d.sh.lo d.sp.l d.pl t.g0)] ps (d) (t)) (cond (!t.led) (PT [.agg #[I Z 0,.bool true,.bool false]] ps (some (cellsD d,0)) (some ([.pointer (some ⟨1099511627776,0,none⟩),.pointer (some ⟨2199023255552,0,none⟩),I Z t.z,I Z t.a.1,I Z t.a.2.1,I Z t.a.2.2,I Z t.b.1,I Z t.b.2.1,I Z t.b.2.2,.bool t.led,I Z t.g0,I Z t.g1],0)) [xv (cmd8 a.h t d.sh.lo d.sp.l d.pl t.g0)] ps (d) (t)) (∀ x1:Int,x1=a.h.fl→∀ x2:Int,x2=a.h.gp→∀ x3:Int,x3=a.h.ln→∀ x4:Int,x4=a.h.rf→∀ x5:Int,x5=a.h.sp→∀ x6:Int,x6=a.h.pu→∀ x7:Int,x7=a.h.br→∀ x8:Int,x8=a.h.dr→∀ x9:Int,x9=a.h.lv→∀ x10:Int,x10=a.h.dO→∀ x11:Int,x11=a.h.ld→∀ x12:Int,x12=a.h.qu→(d.sp.l.lo≤d.sp.l.hi)∧(∀ x13:Int,x13=(aimS d.sp.l t.g0)→∀ x14:Int,x14=(Hs.cmdFor (⟨x1,x2,x3,x4,x5,x6,x7,x8,x9,x10,x11,x12⟩:Hs) d.sh.lo x13).push→∀ x15:Bool,x15=(Hs.cmdFor (⟨x1,x2,x3,x4,x5,x6,x7,x8,x9,x10,x11,x12⟩:Hs) d.sh.lo x13).brk→∀ x16:Bool,x16=(Hs.cmdFor (⟨x1,x2,x3,x4,x5,x6,x7,x8,x9,x10,x11,x12⟩:Hs) d.sh.lo x13).opn→PT [.agg #[I Z x14,.bool x15,.bool x16]] ps (some (cellsD d,0)) (some ([.pointer (some ⟨1099511627776,0,none⟩),.pointer (some ⟨2199023255552,0,none⟩),I Z t.z,I Z t.a.1,I Z t.a.2.1,I Z t.a.2.2,I Z t.b.1,I Z t.b.2.1,I Z t.b.2.2,.bool t.led,I Z t.g0,I Z t.g1],0)) [xv (cmd8 a.h t d.sh.lo d.sp.l d.pl t.g0)] ps (d) (t)))))) (by kernel_rfl) ?_ W hb pTn_own (PS.of X P)).mono ?_
 ·refine if_b (fun e=>?_) (fun e=>if_b (fun e2=>?_) (fun e2=>if_b (fun e3=>?_) (fun e3=>?_)))
  ·refine ⟨?_,rfl,rfl,rfl⟩
   simp at e;rw [cmd8,if_pos e]
  ·refine ⟨?_,rfl,rfl,rfl⟩
   simp at e e2;rw [cmd8,if_neg e,if_pos e2]
  ·refine ⟨?_,rfl,rfl,rfl⟩
   simp at e e2 e3;rw [cmd8,if_neg e,if_neg e2,if_pos e3]
  ·rintro x1 rfl x2 rfl x3 rfl x4 rfl x5 rfl x6 rfl x7 rfl x8 rfl x9 rfl x10 rfl x11 rfl x12 rfl
   refine ⟨sl,?_⟩
   rintro x13 rfl x14 rfl x15 rfl x16 rfl
   refine ⟨?_,rfl,rfl,rfl⟩
   simp at e e2 e3;rw [cmd8,if_neg e,if_neg e2,if_neg (by simp [e3])]
 ·rintro e w' ⟨vs,s,rfl,⟨rfl,hg,hr,ht⟩,hJ,_⟩
  exact ⟨rfl,PS.to X hg hr ht hJ⟩
theorem open1_w{w W0:World}{n B tb gb g1 g2:Nat}{a:Gp}{ds:List Dk}{i:Nat}(X:PX n B tb gb g1 g2 a ds i)(d:Dk)(t:Tn)(ps:List Pe)(o:a.h.Ok)(nf:t.b.1=0→-1≤t.b.2.2∧t.b.2.2≤a.h.fl)(p1:-100000000≤d.sh.up.pos)(p2:d.sh.up.pos≤100000000)(W:World)(hb:n≤W.heap.size)(P:PS w W0 W n B tb gb g1 g2 a ds i ps t d) :
  Calls Tryz.prog 88 #[.agg #[.pointer (some ⟨tb,0,none⟩),I Z 1,.pointer (some ⟨g1,i * 13 + 3,none⟩),.pointer (some ⟨g1,i * 13 + 8,none⟩),.pointer (some ⟨g1,i * 13 + 11,none⟩)]] W fun e w'=>e=.returned (.tuple #[])∧PS w W0 w' n B tb gb g1 g2 a ds i ps t ⟨d.sh,d.sp,d.pl,(opn8 a.h t.b d.sh.up d.pu),d.hd⟩:=by
 have hC:WOk Tryz.prog (pD w W0 X) (cPr a):=cPr_ok X
 refine (runs_ok (L:=[iRest]) (C:=cPr a) mo hC Tryz.func88 (args:=[.agg #[.pointer (some ⟨2199023255553,0,none⟩),I Z 1,.pointer (some ⟨2199023255552,3,none⟩),.pointer (some ⟨2199023255552,8,none⟩),.pointer (some ⟨2199023255552,11,none⟩)]]) (m:=pTn a d t) (g:=ps) (Post:=(fun vs s=>PT vs s.g (s.m 2199023255552) (s.m 2199023255553) [] ps (⟨d.sh,d.sp,d.pl,(opn8 a.h t.b d.sh.up d.pu),d.hd⟩) (t))) (T:=jn (fun (J1:Bool→Prop)=>cond (d.pu == 0) (cond (t.b.1 == 0) (∀ x1:Int,x1=a.h.fl→∀ x2:Int,x2=a.h.gp→∀ x3:Int,x3=a.h.ln→∀ x4:Int,x4=a.h.rf→∀ x5:Int,x5=a.h.sp→∀ x6:Int,x6=a.h.pu→∀ x7:Int,x7=a.h.br→∀ x8:Int,x8=a.h.dr→∀ x9:Int,x9=a.h.lv→∀ x10:Int,x10=a.h.dO→∀ x11:Int,x11=a.h.ld→∀ x12:Int,x12=a.h.qu→((⟨x1,x2,x3,x4,x5,x6,x7,x8,x9,x10,x11,x12⟩:Hs).Ok∧(-1≤t.b.2.2∧t.b.2.2≤(⟨x1,x2,x3,x4,x5,x6,x7,x8,x9,x10,x11,x12⟩:Hs).fl)∧-100000000≤d.sh.up.pos∧d.sh.up.pos≤100000000)∧(∀ x13:Bool,x13=((d.sh.up.vel == 0) && Hs.near (⟨x1,x2,x3,x4,x5,x6,x7,x8,x9,x10,x11,x12⟩:Hs) d.sh.up t.b.2.2)→(J1 x13))) ((J1 false))) ((J1 false))) (fun (y1_0:Bool)=>jn (fun (J2:Int→Prop)=>cond y1_0 ((J2 1)) ((J2 d.pu))) (fun (y2_0:Int)=>PT [] ps (some (cellsD (⟨d.sh,d.sp,d.pl,y2_0,d.hd⟩:Dk),0)) (some ([.pointer (some ⟨1099511627776,0,none⟩),.pointer (some ⟨2199023255552,0,none⟩),I Z t.z,I Z t.a.1,I Z t.a.2.1,I Z t.a.2.2,I Z t.b.1,I Z t.b.2.1,I Z t.b.2.2,.bool t.led,I Z t.g0,I Z t.g1],0)) [] ps (⟨d.sh,d.sp,d.pl,(opn8 a.h t.b d.sh.up d.pu),d.hd⟩) (t)))) (by kernel_rfl) ?_ W hb pTn_own (PS.of X P)).mono ?_
 ·refine jn_of (fun J=>J (decide (d.pu=0∧t.b.1=0∧((d.sh.up.vel == 0) && Hs.near a.h d.sh.up t.b.2.2)=true))) ?_ (fun J hJ=>?_)
  ·refine jn_of (fun J=>J (opn8 a.h t.b d.sh.up d.pu)) ⟨rfl,rfl,rfl,rfl⟩ (fun J hJ=>?_)
   refine if_b (fun q=>?_) (fun q=>?_)
   ·rw [opn8,if_pos (of_decide_eq_true q)] at hJ;exact hJ
   ·rw [opn8,if_neg (of_decide_eq_false q)] at hJ;exact hJ
  ·refine if_b (fun e=>if_b (fun e2=>?_) (fun e2=>?_)) (fun e=>?_)
   ·rintro x1 rfl x2 rfl x3 rfl x4 rfl x5 rfl x6 rfl x7 rfl x8 rfl x9 rfl x10 rfl x11 rfl x12 rfl
    refine ⟨⟨o,nf (by simpa using e2),p1,p2⟩,?_⟩
    rintro x13 rfl
    have e':decide (d.pu=0∧t.b.1=0∧((d.sh.up.vel == 0) && Hs.near a.h d.sh.up t.b.2.2)=true)=((d.sh.up.vel == 0) && Hs.near a.h d.sh.up t.b.2.2):=by
     simp at e e2;cases hz:(d.sh.up.vel == 0) && Hs.near a.h d.sh.up t.b.2.2 <;> simp_all
    rw [e'] at hJ;exact hJ
   ·simp at e2;simpa [e2] using hJ
   ·simp at e;simpa [e] using hJ
 ·rintro e w' ⟨vs,s,rfl,⟨rfl,hg,hr,ht⟩,hJ,_⟩
  exact ⟨rfl,PS.to X hg hr ht hJ⟩
theorem cmd1_w{w W0:World}{n B tb gb g1 g2:Nat}{a:Gp}{ds:List Dk}{i:Nat}(X:PX n B tb gb g1 g2 a ds i)(d:Dk)(t:Tn)(ps:List Pe)(sl:d.sp.u.lo≤d.sp.u.hi)(W:World)(hb:n≤W.heap.size)(P:PS w W0 W n B tb gb g1 g2 a ds i ps t d) :
  Calls Tryz.prog 93 #[.agg #[.pointer (some ⟨tb,0,none⟩),I Z 1,.pointer (some ⟨g1,i * 13 + 3,none⟩),.pointer (some ⟨g1,i * 13 + 8,none⟩),.pointer (some ⟨g1,i * 13 + 11,none⟩)]] W fun e w'=>e=.returned (xv (cmd8 a.h t d.sh.up d.sp.u d.pu t.g1))∧PS w W0 w' n B tb gb g1 g2 a ds i ps t d:=by
 have hC:WOk Tryz.prog (pD w W0 X) (cPr a):=cPr_ok X
 refine (runs_ok (L:=[iAim,iCF]) (C:=cPr a) mo hC Tryz.func93 (args:=[.agg #[.pointer (some ⟨2199023255553,0,none⟩),I Z 1,.pointer (some ⟨2199023255552,3,none⟩),.pointer (some ⟨2199023255552,8,none⟩),.pointer (some ⟨2199023255552,11,none⟩)]]) (m:=pTn a d t) (g:=ps) (Post:=(fun vs s=>PT vs s.g (s.m 2199023255552) (s.m 2199023255553) [xv (cmd8 a.h t d.sh.up d.sp.u d.pu t.g1)] ps (d) (t))) (T:=cond (d.pu == 1) (PT [.agg #[I Z 0,.bool false,.bool true]] ps (some (cellsD d,0)) (some ([.pointer (some ⟨1099511627776,0,none⟩),.pointer (some ⟨2199023255552,0,none⟩),I Z t.z,I Z t.a.1,I Z t.a.2.1,I Z t.a.2.2,I Z t.b.1,I Z t.b.2.1,I Z t.b.2.2,.bool t.led,I Z t.g0,I Z t.g1],0)) [xv (cmd8 a.h t d.sh.up d.sp.u d.pu t.g1)] ps (d) (t)) (cond (d.pu == 2) (PT [.agg #[I Z 0,.bool false,.bool false]] ps (some (cellsD d,0)) (some ([.pointer (some ⟨1099511627776,0,none⟩),.pointer (some ⟨2199023255552,0,none⟩),I Z t.z,I Z t.a.1,I Z t.a.2.1,I Z t.a.2.2,I Z t.b.1,I Z t.b.2.1,I Z t.b.2.2,.bool t.led,I Z t.g0,I Z t.g1],0)) [xv (cmd8 a.h t d.sh.up d.sp.u d.pu t.g1)] ps (d) (t)) (cond (!t.led) (PT [.agg #[I Z 0,.bool true,.bool false]] ps (some (cellsD d,0)) (some ([.pointer (some ⟨1099511627776,0,none⟩),.pointer (some ⟨2199023255552,0,none⟩),I Z t.z,I Z t.a.1,I Z t.a.2.1,I Z t.a.2.2,I Z t.b.1,I Z t.b.2.1,I Z t.b.2.2,.bool t.led,I Z t.g0,I Z t.g1],0)) [xv (cmd8 a.h t d.sh.up d.sp.u d.pu t.g1)] ps (d) (t)) (∀ x1:Int,x1=a.h.fl→∀ x2:Int,x2=a.h.gp→∀ x3:Int,x3=a.h.ln→∀ x4:Int,x4=a.h.rf→∀ x5:Int,x5=a.h.sp→∀ x6:Int,x6=a.h.pu→∀ x7:Int,x7=a.h.br→∀ x8:Int,x8=a.h.dr→∀ x9:Int,x9=a.h.lv→∀ x10:Int,x10=a.h.dO→∀ x11:Int,x11=a.h.ld→∀ x12:Int,x12=a.h.qu→(d.sp.u.lo≤d.sp.u.hi)∧(∀ x13:Int,x13=(aimS d.sp.u t.g1)→∀ x14:Int,x14=(Hs.cmdFor (⟨x1,x2,x3,x4,x5,x6,x7,x8,x9,x10,x11,x12⟩:Hs) d.sh.up x13).push→∀ x15:Bool,x15=(Hs.cmdFor (⟨x1,x2,x3,x4,x5,x6,x7,x8,x9,x10,x11,x12⟩:Hs) d.sh.up x13).brk→∀ x16:Bool,x16=(Hs.cmdFor (⟨x1,x2,x3,x4,x5,x6,x7,x8,x9,x10,x11,x12⟩:Hs) d.sh.up x13).opn→PT [.agg #[I Z x14,.bool x15,.bool x16]] ps (some (cellsD d,0)) (some ([.pointer (some ⟨1099511627776,0,none⟩),.pointer (some ⟨2199023255552,0,none⟩),I Z t.z,I Z t.a.1,I Z t.a.2.1,I Z t.a.2.2,I Z t.b.1,I Z t.b.2.1,I Z t.b.2.2,.bool t.led,I Z t.g0,I Z t.g1],0)) [xv (cmd8 a.h t d.sh.up d.sp.u d.pu t.g1)] ps (d) (t)))))) (by kernel_rfl) ?_ W hb pTn_own (PS.of X P)).mono ?_
 ·refine if_b (fun e=>?_) (fun e=>if_b (fun e2=>?_) (fun e2=>if_b (fun e3=>?_) (fun e3=>?_)))
  ·refine ⟨?_,rfl,rfl,rfl⟩
   simp at e;rw [cmd8,if_pos e]
  ·refine ⟨?_,rfl,rfl,rfl⟩
   simp at e e2;rw [cmd8,if_neg e,if_pos e2]
  ·refine ⟨?_,rfl,rfl,rfl⟩
   simp at e e2 e3;rw [cmd8,if_neg e,if_neg e2,if_pos e3]
  ·rintro x1 rfl x2 rfl x3 rfl x4 rfl x5 rfl x6 rfl x7 rfl x8 rfl x9 rfl x10 rfl x11 rfl x12 rfl
   refine ⟨sl,?_⟩
   rintro x13 rfl x14 rfl x15 rfl x16 rfl
   refine ⟨?_,rfl,rfl,rfl⟩
   simp at e e2 e3;rw [cmd8,if_neg e,if_neg e2,if_neg (by simp [e3])]
 ·rintro e w' ⟨vs,s,rfl,⟨rfl,hg,hr,ht⟩,hJ,_⟩
  exact ⟨rfl,PS.to X hg hr ht hJ⟩
theorem implOther_any(c:Int)(h1:0≤c)(h2:c≤1)(w:World):Calls Tryz.prog 140 #[I Z c] w fun e w'=>e=.returned (I Z (1 - c))∧Below w.heap.size w w':=by
 refine calls_ok mo (L:=[]) Tryz.func140 (args:=[I Z c]) (T:=IsI (IntKind.i64.wrap (1 - c)) (1 - c)) (by kernel_rfl) ?_ w
 rw [w64 (x:=1 - c) (by omega) (by omega)]
 exact rfl
theorem extended_s(x:Ss)(a b:Int)(h1:a < b∧x.l.lo≤x.l.hi∧x.l.hi < x.u.lo∧x.u.lo≤x.u.hi)(h2:-1000≤x.l.hi∧x.u.hi≤1000)(h3:-1000≤a∧b≤1000)(w:World):Calls Tryz.prog 142 #[nv x,I Z a,I Z b] w fun e w'=>e=.returned (nv (extS x a b))∧Below w.heap.size w w':=by
 have e:extS x a b=⟨growS x.l (min a (x.u.lo - 1)),growS x.u (max b ((growS x.l (min a (x.u.lo - 1))).hi + 1))⟩:=by
  unfold extS growS
  simp only [Ss.mk.injEq,Sp.mk.injEq]
  refine ⟨⟨?_,?_⟩,⟨?_,?_⟩⟩ <;> (try dsimp only) <;> omega
 rw [e]
 have g:-2000≤(growS x.l (min a (x.u.lo - 1))).hi∧(growS x.l (min a (x.u.lo - 1))).hi≤2000:=by unfold growS;dsimp only;omega
 exact extended_any x a b (by omega) (by omega) _ _ rfl g.1 g.2 rfl w
def iExt:Ent Tryz.prog:=e3 kN kI kI 142 (fun x_ a_ b_=>some ((a_ < b_∧x_.l.lo≤x_.l.hi∧x_.l.hi < x_.u.lo∧x_.u.lo≤x_.u.hi)∧(-1000≤x_.l.hi∧x_.u.hi≤1000)∧-1000≤a_∧b_≤1000)) (fun x_ a_ b_=>.agg #[I Z (((extS x_ a_ b_).l).lo),I Z (((extS x_ a_ b_).l).hi),I Z (((extS x_ a_ b_).u).lo),I Z (((extS x_ a_ b_).u).hi)]) fun x_ a_ b_ p w=>have ⟨h1,h2,h3⟩:=p _ rfl;extended_s x_ a_ b_ h1 h2 h3 w
def wLeadP(L:Int):EntW:=⟨139,fun γ m az=>match az with
 | [.agg ⟨[I Z ak,I Z ai,I Z af,I Z bk,I Z bi,I Z bf]⟩]=>some (some ((ak=0 ∨ bk=0)∧lead8 (ak,ai,af) (bk,bi,bf)=L),I Z L,none)
 | _=>none⟩
def wOtherP(L M:Int):EntW:=⟨140,fun γ m az=>match az with
 | [I Z c]=>some (some (c=L),I Z M,none)
 | _=>none⟩
def cFo(a:Gp)(L M:Int):Cf:=⟨[wHouse a,wLeadP L,wOtherP L M],fun _ _ _=>none,false,[]⟩
theorem cFo_ok{w W0:World}{n B tb gb g1 g2:Nat}{a:Gp}{ds:List Dk}{i:Nat}(X:PX n B tb gb g1 g2 a ds i){L M:Int}(h0:0≤L)(h1:L≤1)(hM:M=1 - L):WOk Tryz.prog (pD w W0 X) (cFo a L M):=by
 refine ⟨fun f e he=>?_,fun f e he=>?_,fun T x i p v h=>by simp [cFo] at h,fun f e h=>by cases h⟩
 ·obtain ⟨hm,rfl⟩:=lookW_mem he
  simp only [cFo,List.mem_cons,List.not_mem_nil,or_false] at hm
  refine ⟨rfl,?_⟩
  rcases hm with rfl | rfl | rfl
  ·intro γ m az p v g hsp hp w1 hb1 J
   simp only [wHouse] at hsp
   split at hsp
   ·rename_i b
    cases hb:Nat.beq b 2199023255553 <;> rw [hb] at hsp <;> simp only [cond_false,cond_true,reduceCtorEq,Option.some.injEq,Prod.mk.injEq] at hsp
    obtain ⟨rfl,rfl,rfl⟩:=hsp
    cases Nat.eq_of_beq_eq_true hb
    exact house_w X w1 (show n≤_ from hb1) J
   ·cases hsp
  ·intro γ m az p v g hsp hp w1 hb1 J
   simp only [wLeadP] at hsp
   split at hsp
   ·simp only [Option.some.injEq,Prod.mk.injEq] at hsp
    obtain ⟨rfl,rfl,rfl⟩:=hsp
    obtain ⟨k1,k2⟩:=hp _ rfl
    refine (leadOf_any _ _ _ _ _ _ k1 w1).mono ?_
    rintro e w' ⟨rfl,hb⟩
    exact ⟨by rw [k2],(pD w W0 X).below _ _ _ _ hb1 hb J,Kept.of_below hb⟩
   ·cases hsp
  ·intro γ m az p v g hsp hp w1 hb1 J
   simp only [wOtherP] at hsp
   split at hsp
   ·simp only [Option.some.injEq,Prod.mk.injEq] at hsp
    obtain ⟨rfl,rfl,rfl⟩:=hsp
    have k:=hp _ rfl
    refine (implOther_any _ (by omega) (by omega) w1).mono ?_
    rintro e w' ⟨rfl,hb⟩
    exact ⟨by rw [hM,k],(pD w W0 X).below _ _ _ _ hb1 hb J,Kept.of_below hb⟩
   ·cases hsp
 ·obtain ⟨hm,_⟩:=lookW_mem he
  simp only [cFo,List.mem_cons,List.not_mem_nil,or_false] at hm
  intro γ m m' az h1
  rcases hm with rfl | rfl | rfl <;> rfl
theorem follow0_w{w W0:World}{n B tb gb g1 g2:Nat}{a:Gp}{ds:List Dk}{i:Nat}(X:PX n B tb gb g1 g2 a ds i)(d:Dk)(t:Tn)(ps:List Pe)(k:DkOk a.h d)(q0:NeedIn a.h t.a)(q1:NeedIn a.h t.b)(nn:t.a.1=0 ∨ t.b.1=0)(hl:lead8 t.a t.b=0)(W:World)(hb:n≤W.heap.size)(P:PS w W0 W n B tb gb g1 g2 a ds i ps t d) :
  Calls Tryz.prog 90 #[.pointer (some ⟨tb,0,none⟩)] W fun e w'=>e=.returned (.tuple #[])∧PS w W0 w' n B tb gb g1 g2 a ds i ps ⟨t.z,t.a,t.b,true,(Hs.goals a.h d.sh 0 t.a.2.2 (if t.b.1=0 then t.b.2.2 else -2)).1,(Hs.goals a.h d.sh 0 t.a.2.2 (if t.b.1=0 then t.b.2.2 else -2)).2⟩ ⟨d.sh,extS d.sp (Hs.goals a.h d.sh 0 t.a.2.2 (if t.b.1=0 then t.b.2.2 else -2)).1 (Hs.goals a.h d.sh 0 t.a.2.2 (if t.b.1=0 then t.b.2.2 else -2)).2,d.pl,d.pu,d.hd⟩:=by
 have hC:WOk Tryz.prog (pD w W0 X) (cFo a 0 1):=cFo_ok X (by decide) (by decide) rfl
 refine (runs_ok (L:=[iGoal,iExt]) (C:=cFo a 0 1) mo hC Tryz.func90 (args:=[.pointer (some ⟨2199023255553,0,none⟩)]) (m:=pTn a d t) (g:=ps) (Post:=(fun vs s=>PT vs s.g (s.m 2199023255552) (s.m 2199023255553) [] ps (⟨d.sh,extS d.sp (Hs.goals a.h d.sh 0 t.a.2.2 (if t.b.1=0 then t.b.2.2 else -2)).1 (Hs.goals a.h d.sh 0 t.a.2.2 (if t.b.1=0 then t.b.2.2 else -2)).2,d.pl,d.pu,d.hd⟩) (⟨t.z,t.a,t.b,true,(Hs.goals a.h d.sh 0 t.a.2.2 (if t.b.1=0 then t.b.2.2 else -2)).1,(Hs.goals a.h d.sh 0 t.a.2.2 (if t.b.1=0 then t.b.2.2 else -2)).2⟩))) (T:=((((t.a.1,t.a.2.1,t.a.2.2),(t.b.1,t.b.2.1,t.b.2.2)).1.1=0 ∨ ((t.a.1,t.a.2.1,t.a.2.2),(t.b.1,t.b.2.1,t.b.2.2)).2.1=0)∧lead8 ((t.a.1,t.a.2.1,t.a.2.2),(t.b.1,t.b.2.1,t.b.2.2)).1 ((t.a.1,t.a.2.1,t.a.2.2),(t.b.1,t.b.2.1,t.b.2.2)).2=0)∧((0:Int)=0)∧jn (fun (J1:Int→Prop)=>cond (t.b.1 == 0) ((J1 t.b.2.2)) ((J1 (-2)))) (fun (y1_0:Int)=>((((Hs.goalV a.h d.sh (0:Int) t.a.2.2 y1_0).1) < ((Hs.goalV a.h d.sh (0:Int) t.a.2.2 y1_0).2)∧d.sp.l.lo≤d.sp.l.hi∧d.sp.l.hi < d.sp.u.lo∧d.sp.u.lo≤d.sp.u.hi)∧(-1000≤d.sp.l.hi∧d.sp.u.hi≤1000)∧-1000≤((Hs.goalV a.h d.sh (0:Int) t.a.2.2 y1_0).1)∧((Hs.goalV a.h d.sh (0:Int) t.a.2.2 y1_0).2)≤1000)∧PT [] ps (some (cellsD (⟨d.sh,(⟨((extS d.sp ((Hs.goalV a.h d.sh (0:Int) t.a.2.2 y1_0).1) ((Hs.goalV a.h d.sh (0:Int) t.a.2.2 y1_0).2)).l),((extS d.sp ((Hs.goalV a.h d.sh (0:Int) t.a.2.2 y1_0).1) ((Hs.goalV a.h d.sh (0:Int) t.a.2.2 y1_0).2)).u)⟩:Ss),d.pl,d.pu,d.hd⟩:Dk),0)) (some ([.pointer (some ⟨1099511627776,0,none⟩),.pointer (some ⟨2199023255552,0,none⟩),I Z t.z,I Z t.a.1,I Z t.a.2.1,I Z t.a.2.2,I Z t.b.1,I Z t.b.2.1,I Z t.b.2.2,.bool true,I Z ((Hs.goalV a.h d.sh (0:Int) t.a.2.2 y1_0).1),I Z ((Hs.goalV a.h d.sh (0:Int) t.a.2.2 y1_0).2)],0)) [] ps (⟨d.sh,extS d.sp (Hs.goals a.h d.sh 0 t.a.2.2 (if t.b.1=0 then t.b.2.2 else -2)).1 (Hs.goals a.h d.sh 0 t.a.2.2 (if t.b.1=0 then t.b.2.2 else -2)).2,d.pl,d.pu,d.hd⟩) (⟨t.z,t.a,t.b,true,(Hs.goals a.h d.sh 0 t.a.2.2 (if t.b.1=0 then t.b.2.2 else -2)).1,(Hs.goals a.h d.sh 0 t.a.2.2 (if t.b.1=0 then t.b.2.2 else -2)).2⟩))) (by kernel_rfl) ?_ W hb pTn_own (PS.of X P)).mono ?_
 ·have g0:=q0 (by unfold lead8 at hl;split at hl;omega;split at hl <;> omega)
  have sp:=k.p
  have O:=Hs.ok_of (Hs.fault_zero sp.hf).1
  have f1:=O.fl1
  have f2:=O.fl2
  obtain ⟨x,hx⟩:∃ x,(if t.b.1=0 then t.b.2.2 else -2)=x:=⟨_,rfl⟩
  have bx:-2≤x∧x≤a.h.fl:=by
   rw [← hx]
   split
   ·rename_i c;have:=q1 c;omega
   ·omega
  rw [hx]
  have G1:Hs.goalV a.h d.sh 0 t.a.2.2 x=Hs.goals a.h d.sh 0 t.a.2.2 x:=by
   unfold Hs.goalV
   refine if_pos ?_
   unfold Hs.goalK
   rw [if_pos k.s,if_pos ⟨by decide,inB_iff.2 g0,inB_iff.2 bx⟩]
  have or:=goals_order (s:=d.sh) O (lead:=0) g0.1 g0.2 bx.1 bx.2
  refine ⟨⟨nn,hl⟩,rfl,?_⟩
  refine jn_of (fun J=>J x) ?_ (fun J hJ=>?_)
  ·rw [G1]
   have o1:=sp.a1;have o2:=sp.a2;have o3:=sp.a3;have o4:=sp.a4;have o5:=sp.a5
   exact ⟨⟨⟨or.1,by omega,by omega,by omega⟩,⟨by omega,by omega⟩,by omega,by omega⟩,rfl,rfl,rfl,rfl⟩
  ·rw [← hx] at hJ
   refine if_b (fun e=>?_) (fun e=>?_)
   ·rw [if_pos (by simpa using e)] at hJ;exact hJ
   ·rw [if_neg (by simpa using e)] at hJ;exact hJ
 ·rintro e w' ⟨vs,s,rfl,⟨rfl,hg,hr,ht⟩,hJ,_⟩
  exact ⟨rfl,PS.to X hg hr ht hJ⟩
theorem follow1_w{w W0:World}{n B tb gb g1 g2:Nat}{a:Gp}{ds:List Dk}{i:Nat}(X:PX n B tb gb g1 g2 a ds i)(d:Dk)(t:Tn)(ps:List Pe)(k:DkOk a.h d)(q0:NeedIn a.h t.a)(q1:NeedIn a.h t.b)(nn:t.a.1=0 ∨ t.b.1=0)(hl:lead8 t.a t.b=1)(W:World)(hb:n≤W.heap.size)(P:PS w W0 W n B tb gb g1 g2 a ds i ps t d) :
  Calls Tryz.prog 90 #[.pointer (some ⟨tb,0,none⟩)] W fun e w'=>e=.returned (.tuple #[])∧PS w W0 w' n B tb gb g1 g2 a ds i ps ⟨t.z,t.a,t.b,true,(Hs.goals a.h d.sh 1 t.b.2.2 (if t.a.1=0 then t.a.2.2 else -2)).1,(Hs.goals a.h d.sh 1 t.b.2.2 (if t.a.1=0 then t.a.2.2 else -2)).2⟩ ⟨d.sh,extS d.sp (Hs.goals a.h d.sh 1 t.b.2.2 (if t.a.1=0 then t.a.2.2 else -2)).1 (Hs.goals a.h d.sh 1 t.b.2.2 (if t.a.1=0 then t.a.2.2 else -2)).2,d.pl,d.pu,d.hd⟩:=by
 have hC:WOk Tryz.prog (pD w W0 X) (cFo a 1 0):=cFo_ok X (by decide) (by decide) rfl
 refine (runs_ok (L:=[iGoal,iExt]) (C:=cFo a 1 0) mo hC Tryz.func90 (args:=[.pointer (some ⟨2199023255553,0,none⟩)]) (m:=pTn a d t) (g:=ps) (Post:=(fun vs s=>PT vs s.g (s.m 2199023255552) (s.m 2199023255553) [] ps (⟨d.sh,extS d.sp (Hs.goals a.h d.sh 1 t.b.2.2 (if t.a.1=0 then t.a.2.2 else -2)).1 (Hs.goals a.h d.sh 1 t.b.2.2 (if t.a.1=0 then t.a.2.2 else -2)).2,d.pl,d.pu,d.hd⟩) (⟨t.z,t.a,t.b,true,(Hs.goals a.h d.sh 1 t.b.2.2 (if t.a.1=0 then t.a.2.2 else -2)).1,(Hs.goals a.h d.sh 1 t.b.2.2 (if t.a.1=0 then t.a.2.2 else -2)).2⟩))) (T:=((((t.a.1,t.a.2.1,t.a.2.2),(t.b.1,t.b.2.1,t.b.2.2)).1.1=0 ∨ ((t.a.1,t.a.2.1,t.a.2.2),(t.b.1,t.b.2.1,t.b.2.2)).2.1=0)∧lead8 ((t.a.1,t.a.2.1,t.a.2.2),(t.b.1,t.b.2.1,t.b.2.2)).1 ((t.a.1,t.a.2.1,t.a.2.2),(t.b.1,t.b.2.1,t.b.2.2)).2=1)∧((1:Int)=1)∧jn (fun (J1:Int→Prop)=>cond (t.a.1 == 0) ((J1 t.a.2.2)) ((J1 (-2)))) (fun (y1_0:Int)=>((((Hs.goalV a.h d.sh (1:Int) t.b.2.2 y1_0).1) < ((Hs.goalV a.h d.sh (1:Int) t.b.2.2 y1_0).2)∧d.sp.l.lo≤d.sp.l.hi∧d.sp.l.hi < d.sp.u.lo∧d.sp.u.lo≤d.sp.u.hi)∧(-1000≤d.sp.l.hi∧d.sp.u.hi≤1000)∧-1000≤((Hs.goalV a.h d.sh (1:Int) t.b.2.2 y1_0).1)∧((Hs.goalV a.h d.sh (1:Int) t.b.2.2 y1_0).2)≤1000)∧PT [] ps (some (cellsD (⟨d.sh,(⟨((extS d.sp ((Hs.goalV a.h d.sh (1:Int) t.b.2.2 y1_0).1) ((Hs.goalV a.h d.sh (1:Int) t.b.2.2 y1_0).2)).l),((extS d.sp ((Hs.goalV a.h d.sh (1:Int) t.b.2.2 y1_0).1) ((Hs.goalV a.h d.sh (1:Int) t.b.2.2 y1_0).2)).u)⟩:Ss),d.pl,d.pu,d.hd⟩:Dk),0)) (some ([.pointer (some ⟨1099511627776,0,none⟩),.pointer (some ⟨2199023255552,0,none⟩),I Z t.z,I Z t.a.1,I Z t.a.2.1,I Z t.a.2.2,I Z t.b.1,I Z t.b.2.1,I Z t.b.2.2,.bool true,I Z ((Hs.goalV a.h d.sh (1:Int) t.b.2.2 y1_0).1),I Z ((Hs.goalV a.h d.sh (1:Int) t.b.2.2 y1_0).2)],0)) [] ps (⟨d.sh,extS d.sp (Hs.goals a.h d.sh 1 t.b.2.2 (if t.a.1=0 then t.a.2.2 else -2)).1 (Hs.goals a.h d.sh 1 t.b.2.2 (if t.a.1=0 then t.a.2.2 else -2)).2,d.pl,d.pu,d.hd⟩) (⟨t.z,t.a,t.b,true,(Hs.goals a.h d.sh 1 t.b.2.2 (if t.a.1=0 then t.a.2.2 else -2)).1,(Hs.goals a.h d.sh 1 t.b.2.2 (if t.a.1=0 then t.a.2.2 else -2)).2⟩))) (by kernel_rfl) ?_ W hb pTn_own (PS.of X P)).mono ?_
 ·have g0:=q1 (by unfold lead8 at hl;split at hl;omega;split at hl <;> omega)
  have sp:=k.p
  have O:=Hs.ok_of (Hs.fault_zero sp.hf).1
  have f1:=O.fl1
  have f2:=O.fl2
  obtain ⟨x,hx⟩:∃ x,(if t.a.1=0 then t.a.2.2 else -2)=x:=⟨_,rfl⟩
  have bx:-2≤x∧x≤a.h.fl:=by
   rw [← hx]
   split
   ·rename_i c;have:=q0 c;omega
   ·omega
  rw [hx]
  have G1:Hs.goalV a.h d.sh 1 t.b.2.2 x=Hs.goals a.h d.sh 1 t.b.2.2 x:=by
   unfold Hs.goalV
   refine if_pos ?_
   unfold Hs.goalK
   rw [if_pos k.s,if_pos ⟨by decide,inB_iff.2 g0,inB_iff.2 bx⟩]
  have or:=goals_order (s:=d.sh) O (lead:=1) g0.1 g0.2 bx.1 bx.2
  refine ⟨⟨nn,hl⟩,rfl,?_⟩
  refine jn_of (fun J=>J x) ?_ (fun J hJ=>?_)
  ·rw [G1]
   have o1:=sp.a1;have o2:=sp.a2;have o3:=sp.a3;have o4:=sp.a4;have o5:=sp.a5
   exact ⟨⟨⟨or.1,by omega,by omega,by omega⟩,⟨by omega,by omega⟩,by omega,by omega⟩,rfl,rfl,rfl,rfl⟩
  ·rw [← hx] at hJ
   refine if_b (fun e=>?_) (fun e=>?_)
   ·rw [if_pos (by simpa using e)] at hJ;exact hJ
   ·rw [if_neg (by simpa using e)] at hJ;exact hJ
 ·rintro e w' ⟨vs,s,rfl,⟨rfl,hg,hr,ht⟩,hJ,_⟩
  exact ⟨rfl,PS.to X hg hr ht hJ⟩
end Go.Proofs.YteimojoicfjdjaaGreat
namespace Go.Proofs.YteimojoicfjdjaaGreat
set_option maxRecDepth 20000
set_option maxHeartbeats 8000000
open Value renaming int → I
open IntKind renaming i64 → Z
open Go.RowKit Pl Sx
set_option linter.unusedVariables false
set_option linter.unusedSimpArgs false
theorem cabs_any(tb g o:Nat)(w:World)(x1:w.cell? ⟨tb,1,none⟩=some (.pointer (some ⟨g,o,none⟩))):Calls Tryz.prog 84 #[.pointer (some ⟨tb,0,none⟩)] w fun e w'=>e=.returned (.tuple #[.agg #[.pointer (some ⟨tb,0,none⟩),I Z 0,.pointer (some ⟨g,o,none⟩),.pointer (some ⟨g,o + 6,none⟩),.pointer (some ⟨g,o + 10,none⟩)],.agg #[.pointer (some ⟨tb,0,none⟩),I Z 1,.pointer (some ⟨g,o + 3,none⟩),.pointer (some ⟨g,o + 8,none⟩),.pointer (some ⟨g,o + 11,none⟩)]])∧Below w.heap.size w w':=by
 have lt:tb < w.heap.size:=World.block_lt_of_cell? w _ x1
 have F0:Hid (Blk ((w.alloc (.cells #[.pointer none,I Z 0,.pointer none,.pointer none,.pointer none] 139)).alloc (.cells #[.pointer none,I Z 0,.pointer none,.pointer none,.pointer none] 139)) w.heap.size [.pointer none,I Z 0,.pointer none,.pointer none,.pointer none]):=(Blk.at_ w #[.pointer none,I Z 0,.pointer none,.pointer none,.pointer none] _ _ rfl).alloc _
 have F1:Hid (Blk ((w.alloc (.cells #[.pointer none,I Z 0,.pointer none,.pointer none,.pointer none] 139)).alloc (.cells #[.pointer none,I Z 0,.pointer none,.pointer none,.pointer none] 139)) (w.heap.size + 1) [.pointer none,I Z 0,.pointer none,.pointer none,.pointer none]):=Blk.at_ _ #[.pointer none,I Z 0,.pointer none,.pointer none,.pointer none] _ _ (by simp)
 have FB:Hid (Below w.heap.size w ((w.alloc (.cells #[.pointer none,I Z 0,.pointer none,.pointer none,.pointer none] 139)).alloc (.cells #[.pointer none,I Z 0,.pointer none,.pointer none,.pointer none] 139))):=((Below.refl _ _).alloc (Nat.le_refl _) _).alloc (by simp) _
 have x1:(((w.alloc (.cells #[.pointer none,I Z 0,.pointer none,.pointer none,.pointer none] 139)).alloc (.cells #[.pointer none,I Z 0,.pointer none,.pointer none,.pointer none] 139))).cell? ⟨tb,1,none⟩=some (.pointer (some ⟨g,o,none⟩)):=(FB.out.cell (p:=⟨tb,1,none⟩) lt).trans x1
 obtain ⟨W0,hW0⟩:∃ W0,W0=((w.alloc (.cells #[.pointer none,I Z 0,.pointer none,.pointer none,.pointer none] 139)).alloc (.cells #[.pointer none,I Z 0,.pointer none,.pointer none,.pointer none] 139)):=⟨_,rfl⟩
 rw [← hW0] at F0 F1 FB x1
 have HW0:=zH hW0
 clear hW0
 go_enter Tryz.func84,Tryz.ntmps84
 go_upto_region 1 with fail
 rw [← HW0.out]
 clear HW0
 go_upto_region 2 with fail
 clear x1
 have k0:=F0.out.c 0 _ rfl
 have kf0:=F0.out.f 0 (Nat.le_of_ble_eq_true rfl)
 have m0:=F1.out.c 0 _ rfl
 have mf0:=F1.out.f 0 (Nat.le_of_ble_eq_true rfl)
 have k1:=F0.out.c 1 _ rfl
 have kf1:=F0.out.f 1 (Nat.le_of_ble_eq_true rfl)
 have m1:=F1.out.c 1 _ rfl
 have mf1:=F1.out.f 1 (Nat.le_of_ble_eq_true rfl)
 have k2:=F0.out.c 2 _ rfl
 have kf2:=F0.out.f 2 (Nat.le_of_ble_eq_true rfl)
 have m2:=F1.out.c 2 _ rfl
 have mf2:=F1.out.f 2 (Nat.le_of_ble_eq_true rfl)
 have k3:=F0.out.c 3 _ rfl
 have kf3:=F0.out.f 3 (Nat.le_of_ble_eq_true rfl)
 have m3:=F1.out.c 3 _ rfl
 have mf3:=F1.out.f 3 (Nat.le_of_ble_eq_true rfl)
 have k4:=F0.out.c 4 _ rfl
 have kf4:=F0.out.f 4 (Nat.le_of_ble_eq_true rfl)
 have m4:=F1.out.c 4 _ rfl
 have mf4:=F1.out.f 4 (Nat.le_of_ble_eq_true rfl)
 go_region
 clear k0 k1 k2 k3 k4 kf0 kf1 kf2 kf3 kf4 m0 m1 m2 m3 m4 mf0 mf1 mf2 mf3 mf4
 go_wp2_with fail
 change bodyPost _ _ _ _ _ ((putB (putB W0 w.heap.size 0 [.pointer (some ⟨tb,0,none⟩),I Z 0,.pointer (some ⟨g,o,none⟩),.pointer (some ⟨g,o + 6,none⟩),.pointer (some ⟨g,o + 10,none⟩)]) (w.heap.size + 1) 0 [.pointer (some ⟨tb,0,none⟩),I Z 1,.pointer (some ⟨g,o + 3,none⟩),.pointer (some ⟨g,o + 8,none⟩),.pointer (some ⟨g,o + 11,none⟩)]).drew)
 obtain ⟨W2,hW2⟩:∃ W,W=((putB (putB W0 w.heap.size 0 [.pointer (some ⟨tb,0,none⟩),I Z 0,.pointer (some ⟨g,o,none⟩),.pointer (some ⟨g,o + 6,none⟩),.pointer (some ⟨g,o + 10,none⟩)]) (w.heap.size + 1) 0 [.pointer (some ⟨tb,0,none⟩),I Z 1,.pointer (some ⟨g,o + 3,none⟩),.pointer (some ⟨g,o + 8,none⟩),.pointer (some ⟨g,o + 11,none⟩)]).drew):=⟨_,rfl⟩
 have G0:Blk W2 w.heap.size [.pointer (some ⟨tb,0,none⟩),I Z 0,.pointer (some ⟨g,o,none⟩),.pointer (some ⟨g,o + 6,none⟩),.pointer (some ⟨g,o + 10,none⟩)]:=by rw [hW2];exact (Blk.putB_other (by omega) _ 0 (F0.out.put [.pointer (some ⟨tb,0,none⟩),I Z 0,.pointer (some ⟨g,o,none⟩),.pointer (some ⟨g,o + 6,none⟩),.pointer (some ⟨g,o + 10,none⟩)] rfl)).drew
 have G1:Blk W2 (w.heap.size + 1) [.pointer (some ⟨tb,0,none⟩),I Z 1,.pointer (some ⟨g,o + 3,none⟩),.pointer (some ⟨g,o + 8,none⟩),.pointer (some ⟨g,o + 11,none⟩)]:=by rw [hW2];exact ((Blk.putB_other (by omega) _ 0 F1.out).put [.pointer (some ⟨tb,0,none⟩),I Z 1,.pointer (some ⟨g,o + 3,none⟩),.pointer (some ⟨g,o + 8,none⟩),.pointer (some ⟨g,o + 11,none⟩)] rfl).drew
 have GB:Below w.heap.size w W2:=by rw [hW2];exact (below_putB (below_putB FB.out (Nat.le_refl _) _ 0) (by omega) _ 0).drew
 rw [← hW2]
 have c:=fun k v h=>G0.c k v h
 have c0:=G0.c 0 _ rfl
 have c1:=G0.c 1 _ rfl
 have c2:=G0.c 2 _ rfl
 have c3:=G0.c 3 _ rfl
 have c4:=G0.c 4 _ rfl
 have d0:=G1.c 0 _ rfl
 have d1:=G1.c 1 _ rfl
 have d2:=G1.c 2 _ rfl
 have d3:=G1.c 3 _ rfl
 have d4:=G1.c 4 _ rfl
 exact bodyPost_ret (v:=.tuple #[.agg #[.pointer (some ⟨tb,0,none⟩),I Z 0,.pointer (some ⟨g,o,none⟩),.pointer (some ⟨g,o + 6,none⟩),.pointer (some ⟨g,o + 10,none⟩)],.agg #[.pointer (some ⟨tb,0,none⟩),I Z 1,.pointer (some ⟨g,o + 3,none⟩),.pointer (some ⟨g,o + 8,none⟩),.pointer (some ⟨g,o + 11,none⟩)]]) (by simp [results,Tryz.results84,go_sem,c0,c1,c2,c3,c4,d0,d1,d2,d3,d4]) rfl ⟨rfl,GB⟩
end Go.Proofs.YteimojoicfjdjaaGreat
