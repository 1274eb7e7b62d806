/- Parts of the proof: XTa. -/
import Derived.Test.YteimojoicfjdjaaGreatZ48
import Derived.Test.YteimojoicfjdjaaGreatZ52
namespace Go.Proofs.YteimojoicfjdjaaGreat
set_option maxRecDepth 20000
set_option maxHeartbeats 16000000
open Value renaming int → I
open IntKind renaming i64 → Z
open Go.RowKit Pl Sx
set_option linter.unusedVariables false
set_option linter.unusedSimpArgs false
def cabL0:List Value:=[.pointer (some ⟨2199023255553,0,none⟩),I Z 0,.pointer (some ⟨2199023255552,0,none⟩),.pointer (some ⟨2199023255552,6,none⟩),.pointer (some ⟨2199023255552,10,none⟩)]
def cabL1:List Value:=[.pointer (some ⟨2199023255553,0,none⟩),I Z 1,.pointer (some ⟨2199023255552,3,none⟩),.pointer (some ⟨2199023255552,8,none⟩),.pointer (some ⟨2199023255552,11,none⟩)]
def tnR:List Value→Option Tn
 | [_,_,I Z z,I Z a,I Z b,I Z c,I Z d,I Z e,I Z f,.bool l,I Z g,I Z h]=>some ⟨z,(a,b,c),(d,e,f),l,g,h⟩
 | _=>none
theorem tnR_c(t:Tn):tnR (tRow t)=some t:=rfl
def rwD(m:Nat→Option Row)(D:Dk):Nat→Option Row:=fun q=>cond (Nat.beq q 2199023255552) (some (cellsD D,0)) (m q)
def rwT(m:Nat→Option Row)(t:Tn):Nat→Option Row:=fun q=>cond (Nat.beq q 2199023255553) (some (tRow t,0)) (m q)
def rwG(m:Nat→Option Row):Nat→Option Row:=fun q=>cond (Nat.beq q 1099511627776) (some ([],0)) (m q)
section
variable {a:Gp} {d:Dk} {t:Tn} {full:Bool} {m:Nat→Option Row}
theorem uM_D(h:∀ q,Sx.isW q=true→m q=uM a d t full q)(D:Dk):∀ q,Sx.isW q=true→rwD m D q=uM a D t full q:=fun q hq=>by
 unfold rwD
 cases e:Nat.beq q 2199023255552
 ·refine (h q hq).trans ?_
  unfold uM pTn gM;rw [e];rfl
 ·have:=Nat.eq_of_beq_eq_true e;subst this;rfl
theorem uM_T(h:∀ q,Sx.isW q=true→m q=uM a d t full q)(T:Tn):∀ q,Sx.isW q=true→rwT m T q=uM a d T full q:=fun q hq=>by
 unfold rwT
 cases e:Nat.beq q 2199023255553
 ·refine (h q hq).trans ?_
  unfold uM pTn;rw [e];rfl
 ·have:=Nat.eq_of_beq_eq_true e;subst this;rfl
theorem uM_hid(h:∀ q,Sx.isW q=true→m q=uM a d t full q):∀ q,Sx.isW q=true→rwG m q=uM a d t false q:=fun q hq=>by
 unfold rwG
 cases e:Nat.beq q 1099511627776
 ·refine (h q hq).trans ?_
  unfold uM;rw [e];rfl
 ·have:=Nat.eq_of_beq_eq_true e;subst this;rfl
theorem uM_some{m':Nat→Option Row}{d':Dk}{t':Tn}{full':Bool}(h:∀ q,Sx.isW q=true→m q=uM a d t full q)(h':∀ q,Sx.isW q=true→m' q=uM a d' t' full' q):∀ q,Sx.isW q=true→(m q).isSome=true→(m' q).isSome=true:=fun q hq hs=>by
 rw [h q hq] at hs
 rw [h' q hq]
 unfold uM pTn gM at hs ⊢
 revert hs
 cases Nat.beq q 1099511627776 <;> cases Nat.beq q 2199023255553 <;> cases Nat.beq q 2199023255552 <;> cases Nat.beq q 1099511627777 <;> cases Nat.beq q 1099511627778 <;> cases full <;> cases full' <;> intro hs <;> first | rfl | exact hs
end
def iStp:Ent Tryz.prog:=e6 kH kS kX kX kI kI 91 (fun h_ s_ a_ b_ d_ e_=>some (Hs.stepK h_ s_ a_ b_ d_ e_=0)) (fun h_ s_ a_ b_ d_ e_=>.agg #[I Z 0,I Z (((Hs.stepS h_ s_ a_ b_ d_ e_).lo).pos),I Z (((Hs.stepS h_ s_ a_ b_ d_ e_).lo).vel),I Z (((Hs.stepS h_ s_ a_ b_ d_ e_).lo).door),I Z (((Hs.stepS h_ s_ a_ b_ d_ e_).up).pos),I Z (((Hs.stepS h_ s_ a_ b_ d_ e_).up).vel),I Z (((Hs.stepS h_ s_ a_ b_ d_ e_).up).door)]) fun h_ s_ a_ b_ d_ e_ p w=>have q:=p _ rfl;by have k:=implStepShaft_any h_ s_ a_ b_ d_ e_ w;unfold isShaft Hs.stepV at k;rw [if_pos q,q] at k;exact k
def iRls:Ent Tryz.prog:=e3 kH kN kS 95 (fun h_ x_ s_=>some (Hs.relK h_ x_ s_=0)) (fun h_ x_ s_=>.agg #[I Z 0,I Z (((Hs.relS h_ x_ s_).l).lo),I Z (((Hs.relS h_ x_ s_).l).hi),I Z (((Hs.relS h_ x_ s_).u).lo),I Z (((Hs.relS h_ x_ s_).u).hi)]) fun h_ x_ s_ p w=>have q:=p _ rfl;by unfold Hs.relK at q;split at q;exact implReleaseSpans_ok h_ x_ s_ (by assumption) q w;exact absurd q (by assumption)
def wStand:EntW:=⟨85,fun γ m az=>match az,m 2199023255552 with
 | [.pointer (some ⟨b,0,none⟩)],some (cs,_)=>cond (Nat.beq b 2199023255553) (match pDk cs with
  | some D=>some (none,.bool ((D.sh.lo.vel == 0) && (D.sh.up.vel == 0)),none)
  | none=>none) none
 | _,_=>none⟩
def wNeeds(a:Gp)(ds:List Dk)(i:Nat):EntW:=⟨87,fun γ m az=>match az,m 2199023255552,m 1099511627776 with
 | [.agg ⟨l⟩,I Z s],some (cs,_),some (_ :: _,_)=>match pDk cs with
  | some D=>some (some ((s=i∧l=gRow a.h a.n a.c a.nx a.np a.c2 a.tk a.rc)∧Gr.fault ⟨a.h,ds.set i D,⟨a.nx,γ⟩,a.tk,a.rc⟩=0),.agg #[I Z (need8 a.h (ds.set i D) γ a.rc i 0).1,I Z (need8 a.h (ds.set i D) γ a.rc i 0).2.1,I Z (need8 a.h (ds.set i D) γ a.rc i 0).2.2,I Z (need8 a.h (ds.set i D) γ a.rc i 1).1,I Z (need8 a.h (ds.set i D) γ a.rc i 1).2.1,I Z (need8 a.h (ds.set i D) γ a.rc i 1).2.2],none)
  | none=>none
 | _,_,_=>none⟩
def wNdd:EntW:=⟨89,fun γ m az=>match az with
 | [.agg ⟨[I Z ak,I Z ai,I Z af,I Z bk,I Z bi,I Z bf]⟩]=>some (none,.bool (decide (ak=0 ∨ bk=0)),none)
 | _=>none⟩
def wCmd(a:Gp):EntW:=⟨93,fun γ m az=>match az,m 2199023255552,m 2199023255553 with
 | [.agg ⟨p :: I Z k :: r⟩],some (cs,_),some (ts,_)=>match pDk cs,tnR ts with
  | some D,some t=>cond (decide (k=0)) (some (some (p :: I Z k :: r=cabL0∧D.sp.l.lo≤D.sp.l.hi),xv (cmd8 a.h t D.sh.lo D.sp.l D.pl t.g0),none)) (cond (decide (k=1)) (some (some (p :: I Z k :: r=cabL1∧D.sp.u.lo≤D.sp.u.hi),xv (cmd8 a.h t D.sh.up D.sp.u D.pu t.g1),none)) none)
  | _,_=>none
 | _,_,_=>none⟩
def bOpen(a:Gp):EntB:=⟨88,fun γ m az=>match az,m 2199023255552,m 2199023255553 with
 | [.agg ⟨p :: I Z k :: r⟩],some (cs,_),some (ts,_)=>match pDk cs,tnR ts with
  | some D,some t=>cond (decide (k=0)) (some (some (p :: I Z k :: r=cabL0∧a.h.Ok∧(t.a.1=0→-1≤t.a.2.2∧t.a.2.2≤a.h.fl)∧-100000000≤D.sh.lo.pos∧D.sh.lo.pos≤100000000),.tuple #[],γ,rwD m ⟨D.sh,D.sp,opn8 a.h t.a D.sh.lo D.pl,D.pu,D.hd⟩)) (cond (decide (k=1)) (some (some (p :: I Z k :: r=cabL1∧a.h.Ok∧(t.b.1=0→-1≤t.b.2.2∧t.b.2.2≤a.h.fl)∧-100000000≤D.sh.up.pos∧D.sh.up.pos≤100000000),.tuple #[],γ,rwD m ⟨D.sh,D.sp,D.pl,opn8 a.h t.b D.sh.up D.pu,D.hd⟩)) none)
  | _,_=>none
 | _,_,_=>none⟩
def bPass(a:Gp):EntB:=⟨94,fun γ m az=>match az,m 2199023255552,m 2199023255553 with
 | [.agg ⟨p :: I Z k :: r⟩],some (cs,_),some (ts,_)=>match pDk cs,tnR ts with
  | some D,some t=>cond (decide (k=0)) (some (some (p :: I Z k :: r=cabL0∧a.h.Ok∧CarOk a.h D.sh.lo∧LdOk a.h ⟨a.nx,γ⟩∧0≤t.z∧t.z≤2),.tuple #[],endL a.h a.rc γ t.z 0 D.sh.lo D.pl,rwG (rwD m ⟨D.sh,D.sp,endK a.h D.sh.lo D.pl,D.pu,D.hd⟩))) (cond (decide (k=1)) (some (some (p :: I Z k :: r=cabL1∧a.h.Ok∧CarOk a.h D.sh.up∧LdOk a.h ⟨a.nx,γ⟩∧0≤t.z∧t.z≤2),.tuple #[],endL a.h a.rc γ t.z 1 D.sh.up D.pu,rwG (rwD m ⟨D.sh,D.sp,D.pl,endK a.h D.sh.up D.pu,D.hd⟩))) none)
  | _,_=>none
 | _,_,_=>none⟩
def bLet(a:Gp):EntB:=⟨86,fun γ m az=>match az,m 2199023255552 with
 | [.pointer (some ⟨b,0,none⟩)],some (cs,_)=>cond (Nat.beq b 2199023255553) (match pDk cs with
  | some D=>some (some (CarOk a.h D.sh.lo∧CarOk a.h D.sh.up),.tuple #[],γ,rwD m ⟨D.sh,Hs.sensed a.h D.sh,D.pl,D.pu,false⟩)
  | none=>none) none
 | _,_=>none⟩
def bFol(a:Gp):EntB:=⟨90,fun γ m az=>match az,m 2199023255552,m 2199023255553 with
 | [.pointer (some ⟨b,0,none⟩)],some (cs,_),some (ts,_)=>cond (Nat.beq b 2199023255553) (match pDk cs,tnR ts with
  | some D,some t=>some (some (DkOk a.h D∧NeedIn a.h t.a∧NeedIn a.h t.b∧(t.a.1=0 ∨ t.b.1=0)),.tuple #[],γ,rwT (rwD m ⟨D.sh,extS D.sp (goal8 a.h D.sh t.a t.b).1 (goal8 a.h D.sh t.a t.b).2,D.pl,D.pu,D.hd⟩) ⟨t.z,t.a,t.b,true,(goal8 a.h D.sh t.a t.b).1,(goal8 a.h D.sh t.a t.b).2⟩)
  | _,_=>none) none
 | _,_,_=>none⟩
def cTk(a:Gp)(ds:List Dk)(i:Nat):Cf:=⟨[wHouse a,wStand,wNeeds a ds i,wNdd,wCmd a],fun _ _ _=>none,true,[bLet a,bOpen a,bFol a,bPass a]⟩
theorem wp_seq_cut{P:Program}{c d:Code}{Q:Exit→Act→World→Prop}{aa:Act}{W:World}(K:Act→World→Prop)(h1:c.wp P (fun e aa W=>match e with | .normal=>K aa W | e=>Q e aa W) aa W)(h2:∀ aa W,K aa W→d.wp P Q aa W):(c.seq d).wp P Q aa W:=by
 refine wp_seq (wp_mono h1 ?_)
 intro e aa W h
 cases e <;> first | exact h2 _ _ h | exact h
theorem cond_some{α:Type}{j k:Nat}{x v:α}{r:Option α}(h:cond (Nat.beq j k) (some x) r=some v):(j=k∧v=x) ∨ r=some v:=by
 cases e:Nat.beq j k <;> rw [e] at h
 ·exact .inr h
 ·exact .inl ⟨Nat.eq_of_beq_eq_true e,(Option.some.inj h).symm⟩
theorem opn8_P{h:Hs}{n:Int × Int × Int}{c:Cs}{ph:Int}:opn8 h n c ph=startP h false n c ph:=by
 unfold opn8 startP stB;simp
theorem cmd8_P{h:Hs}{t:Tn}{c:Cs}{x:Sp}{ph g:Int}{st:Bool}(kc:h.car c=0)(z:0≤ph∧ph≤2)(y:c.door ≠ 0→ph ≠ 0)(aim:-1≤aimS x g∧aimS x g≤h.fl)(l:t.led = !st):cmd8 h t c x ph g=cmdP h c ph st (aimS x g):=by
 unfold cmd8 cmdP
 by_cases p1:ph=1
 ·rw [if_pos p1,if_pos p1]
 rw [if_neg p1,if_neg p1]
 by_cases p2:ph=2
 ·rw [if_pos p2,if_pos p2]
 rw [if_neg p2,if_neg p2]
 cases st
 ·rw [if_neg (by simp [l]),if_neg (by simp)]
  unfold Hs.cmdFor
  rw [if_pos ⟨kc,inB_iff.2 aim,by by_cases e:c.door=0;exact e;have:=y e;omega⟩]
 ·rw [if_pos (by simp [l]),if_pos rfl]
theorem fault_set{a:Gp}{ds:List Dk}{i:Nat}{d:Dk}{ps:List Pe}(dks:∀ (j:Nat) e,ds[j]? = some e→DkOk a.h e)(k:DkOk a.h d)(ld:LdOk a.h ⟨a.nx,ps⟩)(aw:awayB a.n ps=false)(hn:ds.length=a.n)(h3:1≤a.n∧a.n≤3)(t1:0≤a.tk)(t2:a.tk≤1000000000000000):Gr.fault ⟨a.h,ds.set i d,⟨a.nx,ps⟩,a.tk,a.rc⟩=0:=by
 have hl:(ds.set i d).length=a.n:=List.length_set.trans hn
 unfold Gr.fault Gr.faultC
 dsimp only
 rw [if_pos ld.hf,hl,if_pos (inB_iff.2 (by omega)),if_pos (decks_all fun j e he=>deck_iff.2 ?_),if_pos (led_zero_iff.2 ld),if_neg (by rw [aw];simp),if_pos (inB_iff.2 ⟨t1,t2⟩)]
 rw [List.getElem?_set] at he
 split at he
 ·split at he
  ·cases he;exact k
  ·cases he
 ·exact dks j e he
def cabN(tb g1 i:Nat)(k:Int)(o1 o2 o3:Nat):List Value:=[.pointer (some ⟨tb,0,none⟩),I Z k,.pointer (some ⟨g1,i * 13 + o1,none⟩),.pointer (some ⟨g1,i * 13 + o2,none⟩),.pointer (some ⟨g1,i * 13 + o3,none⟩)]
theorem lookB_mem:∀ {l:List EntB} {f:Nat} {e:EntB},lookB l f=some e→e ∈ l∧e.f=f
 | [],_,_,h=>by cases h
 | x :: l,f,e,h=>by
  simp only [lookB] at h
  cases b:Nat.beq x.f f <;> rw [b] at h
  ·have:=lookB_mem (l:=l) h;exact ⟨List.mem_cons_of_mem _ this.1,this.2⟩
  ·simp only [cond_true,Option.some.injEq] at h;subst h;exact ⟨by simp,Nat.eq_of_beq_eq_true b⟩
theorem cTk_ok(f:Nat→Nat × Nat){w W0:World}{n B tb gb g1 g2:Nat}{a:Gp}{ds:List Dk}{i:Nat}(X:PX n B tb gb g1 g2 a ds i)(hlp:a.np≤1048576)(hld:a.n≤1048576):WOk Tryz.prog (uD f w W0 X) (cTk a ds i):=by
 refine ⟨fun f' e he=>?_,fun f' e he=>?_,fun T x i p v h=>by simp [cTk] at h,fun f' e he=>?_⟩
 ·obtain ⟨hm,rfl⟩:=lookW_mem he
  simp only [cTk,List.mem_cons,List.not_mem_nil,or_false] at hm
  refine ⟨rfl,?_⟩
  intro γ m az p v g hsp hp w1 hb1 J
  have J':=J
  obtain ⟨d,t,full,p2,c2,e,hf,U⟩:=J
  have ed:m 2199023255552=some (cellsD d,0):=(e _ (by decide)).trans (uM_ne rfl)
  have et:m 2199023255553=some (tRow t,0):=(e _ (by decide)).trans (uM_ne rfl)
  have eg:=e 1099511627776 (by decide)
  have hb1:n≤w1.heap.size:=hb1
  rcases hm with rfl | rfl | rfl | rfl | rfl
  ·simp only [wHouse] at hsp
   split at hsp
   ·rename_i b
    cases hb:Nat.beq b 2199023255553 <;> rw [hb] at hsp <;> simp only [cond_false,cond_true,reduceCtorEq,Option.some.injEq,Prod.mk.injEq] at hsp
    obtain ⟨rfl,rfl,rfl⟩:=hsp
    cases Nat.eq_of_beq_eq_true hb
    exact house_u X w1 hb1 J'
   ·cases hsp
  ·simp only [wStand,ed] at hsp
   split at hsp
   ·rename_i b cs T hcs
    cases hcs
    rw [pDk_c] at hsp
    cases hb:Nat.beq b 2199023255553 <;> rw [hb] at hsp <;> simp only [cond_false,cond_true,reduceCtorEq,Option.some.injEq,Prod.mk.injEq] at hsp
    obtain ⟨rfl,rfl,rfl⟩:=hsp
    cases Nat.eq_of_beq_eq_true hb
    refine (isStanding_w (U.px X) d t γ w1 (Nat.le_refl _) U.ps).mono ?_
    rintro e' w' ⟨rfl,P⟩
    have V:=P.pu U.q
    exact ⟨rfl,⟨d,t,full,p2,c2,e,hf,U.then hb1 V⟩,U.k X hb1 V⟩
   ·cases hsp
  ·simp only [wNeeds,ed] at hsp
   split at hsp
   ·rename_i l z cs T v1 tl T2 hcs hq6
    cases hcs
    rw [pDk_c] at hsp
    simp only [Option.some.injEq,Prod.mk.injEq] at hsp
    obtain ⟨rfl,rfl,rfl⟩:=hsp
    obtain ⟨⟨rfl,rfl⟩,gf⟩:=hp _ rfl
    cases full
    ·rw [hq6] at eg;cases eg
    obtain ⟨rfl,rfl⟩:=hf rfl
    have hsl:(ds.set i d).length=a.n:=List.length_set.trans X.hn
    have q:=needsIn_any a.h (ds.set i d) (some ⟨g1,0,none⟩) a.c a.nx γ (some ⟨p2,0,none⟩) a.c2 a.tk a.rc i gf (by omega) (by rw [hsl];have:=X.hi;have:=X.hn;omega) (by rw [hsl];exact hld) (by rw [U.L];exact hlp) w1 U.G.din U.G.pin
    rw [hsl,U.L] at q
    refine q.mono ?_
    rintro e' w' ⟨rfl,hb⟩
    exact ⟨rfl,⟨d,t,true,p2,a.c2,e,hf,U.below hb1 hb⟩,uK_below X.l1 hb1 hb⟩
   ·cases hsp
  ·simp only [wNdd] at hsp
   split at hsp
   ·simp only [Option.some.injEq,Prod.mk.injEq] at hsp
    obtain ⟨rfl,rfl,rfl⟩:=hsp
    refine (isNeeded_any _ _ _ _ _ _ w1).mono ?_
    rintro e' w' ⟨rfl,hb⟩
    exact ⟨rfl,⟨d,t,full,p2,c2,e,hf,U.below hb1 hb⟩,uK_below X.l1 hb1 hb⟩
   ·cases hsp
  ·simp only [wCmd,ed,et] at hsp
   split at hsp
   ·rename_i q1 k r cs T ts T2 hcs hts
    cases hcs
    cases hts
    rw [pDk_c,tnR_c] at hsp
    dsimp only at hsp
    cases z0:decide (k=0) <;> rw [z0] at hsp
    ·cases z1:decide (k=1) <;> rw [z1] at hsp <;> simp only [cond_false,cond_true,reduceCtorEq,Option.some.injEq,Prod.mk.injEq] at hsp
     obtain ⟨rfl,rfl,rfl⟩:=hsp
     obtain ⟨h,sl⟩:=hp _ rfl
     rw [h]
     refine (cmd1_w (U.px X) d t γ sl w1 (Nat.le_refl _) U.ps).mono ?_
     rintro e' w' ⟨rfl,P⟩
     have V:=P.pu U.q
     exact ⟨rfl,⟨d,t,full,p2,c2,e,hf,U.then hb1 V⟩,U.k X hb1 V⟩
    ·simp only [cond_true,Option.some.injEq,Prod.mk.injEq] at hsp
     obtain ⟨rfl,rfl,rfl⟩:=hsp
     obtain ⟨h,sl⟩:=hp _ rfl
     rw [h]
     refine (cmd0_w (U.px X) d t γ sl w1 (Nat.le_refl _) U.ps).mono ?_
     rintro e' w' ⟨rfl,P⟩
     have V:=P.pu U.q
     exact ⟨rfl,⟨d,t,full,p2,c2,e,hf,U.then hb1 V⟩,U.k X hb1 V⟩
   ·cases hsp
 ·obtain ⟨hm,_⟩:=lookW_mem he
  simp only [cTk,List.mem_cons,List.not_mem_nil,or_false] at hm
  intro γ m m' az h1
  have a1:=h1 1099511627776 (by decide)
  have a2:=h1 2199023255552 (by decide)
  have a3:=h1 2199023255553 (by decide)
  rcases hm with rfl | rfl | rfl | rfl | rfl <;> first | rfl | simp only [wStand,wNeeds,wCmd,a1,a2,a3]
 ·obtain ⟨hm,rfl⟩:=lookB_mem he
  simp only [cTk,List.mem_cons,List.not_mem_nil,or_false] at hm
  refine ⟨rfl,?_⟩
  intro γ m az p v g m' hsp hp w1 hb1 ⟨d,t,full,p2,c2,e,hf,U⟩
  have ed:m 2199023255552=some (cellsD d,0):=(e _ (by decide)).trans (uM_ne rfl)
  have et:m 2199023255553=some (tRow t,0):=(e _ (by decide)).trans (uM_ne rfl)
  have hb1:n≤w1.heap.size:=hb1
  have fin:∀ (D:Dk) (t':Tn) (m':Nat→Option Row) (γ':List Pe) (full':Bool),(∀ q,Sx.isW q=true→m' q=uM a D t' full' q)→(full'=true→full=true)→∀ w' p3 c3,(full'=true→p3=p2∧c3=c2)→PU w w1 w' w1.heap.size B tb gb g1 p2 p3 c3 { a with c2:=c2 } ds i γ' t' D→uJ w W0 n B tb gb g1 g2 a ds i γ' m' w'∧uK n gb w1 w':=fun D t' m' γ' full' h1 h2 w' p3 c3 h3 V=>
   ⟨⟨D,t',full',p3,c3,h1,fun q=>by obtain ⟨u1,u2⟩:=h3 q;obtain ⟨u3,u4⟩:=hf (h2 q);exact ⟨u1.trans u3,u2.trans u4⟩,U.then hb1 V⟩,U.k X hb1 V⟩
  rcases hm with rfl | rfl | rfl | rfl
  ·simp only [bLet,ed] at hsp
   split at hsp
   ·rename_i b cs T hcs
    cases hcs
    rw [pDk_c] at hsp
    cases hb:Nat.beq b 2199023255553 <;> rw [hb] at hsp <;> simp only [cond_false,cond_true,reduceCtorEq,Option.some.injEq,Prod.mk.injEq] at hsp
    obtain ⟨rfl,rfl,rfl,rfl⟩:=hsp
    cases Nat.eq_of_beq_eq_true hb
    obtain ⟨ka,kb⟩:=hp _ rfl
    refine ⟨uM_some e (uM_D e _),(letGo_w (U.px X) d t γ ka kb w1 (Nat.le_refl _) U.ps).mono ?_⟩
    rintro e' w' ⟨rfl,P⟩
    exact ⟨rfl,fin _ _ _ _ full (uM_D e _) (fun q=>q) w' p2 c2 (fun _=>⟨rfl,rfl⟩) (P.pu U.q)⟩
   ·cases hsp
  ·simp only [bOpen,ed,et] at hsp
   split at hsp
   ·rename_i q1 k r cs T ts T2 hcs hts
    cases hcs
    cases hts
    rw [pDk_c,tnR_c] at hsp
    dsimp only at hsp
    cases z0:decide (k=0) <;> rw [z0] at hsp
    ·cases z1:decide (k=1) <;> rw [z1] at hsp <;> simp only [cond_false,cond_true,reduceCtorEq,Option.some.injEq,Prod.mk.injEq] at hsp
     obtain ⟨rfl,rfl,rfl,rfl⟩:=hsp
     obtain ⟨h,o,nf,k1,k2⟩:=hp _ rfl
     rw [h]
     refine ⟨uM_some e (uM_D e _),(open1_w (U.px X) d t γ o nf k1 k2 w1 (Nat.le_refl _) U.ps).mono ?_⟩
     rintro e' w' ⟨rfl,P⟩
     exact ⟨rfl,fin _ _ _ _ full (uM_D e _) (fun q=>q) w' p2 c2 (fun _=>⟨rfl,rfl⟩) (P.pu U.q)⟩
    ·simp only [cond_true,Option.some.injEq,Prod.mk.injEq] at hsp
     obtain ⟨rfl,rfl,rfl,rfl⟩:=hsp
     obtain ⟨h,o,nf,k1,k2⟩:=hp _ rfl
     rw [h]
     refine ⟨uM_some e (uM_D e _),(open0_w (U.px X) d t γ o nf k1 k2 w1 (Nat.le_refl _) U.ps).mono ?_⟩
     rintro e' w' ⟨rfl,P⟩
     exact ⟨rfl,fin _ _ _ _ full (uM_D e _) (fun q=>q) w' p2 c2 (fun _=>⟨rfl,rfl⟩) (P.pu U.q)⟩
   ·cases hsp
  ·simp only [bFol,ed,et] at hsp
   split at hsp
   ·rename_i b cs T ts T2 hcs hts
    cases hcs
    cases hts
    rw [pDk_c,tnR_c] at hsp
    cases hb:Nat.beq b 2199023255553 <;> rw [hb] at hsp <;> simp only [cond_false,cond_true,reduceCtorEq,Option.some.injEq,Prod.mk.injEq] at hsp
    obtain ⟨rfl,rfl,rfl,rfl⟩:=hsp
    cases Nat.eq_of_beq_eq_true hb
    obtain ⟨k,n0,n1,nn⟩:=hp _ rfl
    refine ⟨uM_some e (uM_T (uM_D e _) _),?_⟩
    rcases lead_cases t.a t.b with hl | ⟨hl,_⟩ | ⟨hl,_⟩
    ·exfalso
     unfold lead8 at hl
     split at hl
     ·omega
     ·split at hl <;> omega
    ·have eg:goal8 a.h d.sh t.a t.b=Hs.goals a.h d.sh 0 t.a.2.2 (if t.b.1=0 then t.b.2.2 else -2):=by unfold goal8;rw [hl];rfl
     rw [eg]
     refine (follow0_w (U.px X) d t γ k n0 n1 nn hl w1 (Nat.le_refl _) U.ps).mono ?_
     rintro e' w' ⟨rfl,P⟩
     exact ⟨rfl,fin _ _ _ _ full (uM_T (uM_D e _) _) (fun q=>q) w' p2 c2 (fun _=>⟨rfl,rfl⟩) (P.pu U.q)⟩
    ·have eg:goal8 a.h d.sh t.a t.b=Hs.goals a.h d.sh 1 t.b.2.2 (if t.a.1=0 then t.a.2.2 else -2):=by unfold goal8;rw [hl];rfl
     rw [eg]
     refine (follow1_w (U.px X) d t γ k n0 n1 nn hl w1 (Nat.le_refl _) U.ps).mono ?_
     rintro e' w' ⟨rfl,P⟩
     exact ⟨rfl,fin _ _ _ _ full (uM_T (uM_D e _) _) (fun q=>q) w' p2 c2 (fun _=>⟨rfl,rfl⟩) (P.pu U.q)⟩
   ·cases hsp
  ·simp only [bPass,ed,et] at hsp
   split at hsp
   ·rename_i q1 k r cs T ts T2 hcs hts
    cases hcs
    cases hts
    rw [pDk_c,tnR_c] at hsp
    dsimp only at hsp
    cases z0:decide (k=0) <;> rw [z0] at hsp
    ·cases z1:decide (k=1) <;> rw [z1] at hsp <;> simp only [cond_false,cond_true,reduceCtorEq,Option.some.injEq,Prod.mk.injEq] at hsp
     obtain ⟨rfl,rfl,rfl,rfl⟩:=hsp
     obtain ⟨h,o,ck,ld,kz⟩:=hp _ rfl
     rw [h]
     refine ⟨uM_some e (uM_hid (uM_D e _)),(pass1_w (U.px X) hlp d t γ o ck ld kz w1 (Nat.le_refl _) U.re).mono ?_⟩
     rintro e' w' ⟨rfl,p3,c3,V⟩
     exact ⟨rfl,fin _ _ _ _ false (uM_hid (uM_D e _)) (fun q=>by cases q) w' p3 c3 (fun q=>by cases q) V⟩
    ·simp only [cond_true,Option.some.injEq,Prod.mk.injEq] at hsp
     obtain ⟨rfl,rfl,rfl,rfl⟩:=hsp
     obtain ⟨h,o,ck,ld,kz⟩:=hp _ rfl
     rw [h]
     refine ⟨uM_some e (uM_hid (uM_D e _)),(pass0_w (U.px X) hlp d t γ o ck ld kz w1 (Nat.le_refl _) U.re).mono ?_⟩
     rintro e' w' ⟨rfl,p3,c3,V⟩
     exact ⟨rfl,fin _ _ _ _ false (uM_hid (uM_D e _)) (fun q=>by cases q) w' p3 c3 (fun q=>by cases q) V⟩
   ·cases hsp
def PK(γ:List Pe)(r:Option Row)(γ1:List Pe)(d1:Dk):Prop:=γ=γ1∧r=some (cellsD d1,0)
theorem take_w{w W0:World}{n B tb gb g1 g2:Nat}{a:Gp}{ds:List Dk}{i:Nat}(X:PX n B tb gb g1 g2 a ds i)(hlp:a.np≤1048576)(h3:a.n≤3)(d:Dk)(hd:ds[i]? = some d)(K:DkOk a.h d)(ps:List Pe)(ld:LdOk a.h ⟨a.nx,ps⟩)(aw:awayB a.n ps=false)(dks:∀ (j:Nat) e,ds[j]? = some e→DkOk a.h e)(t1:0≤a.tk)(t2:a.tk≤1000000000000000)(dl du:Int)(d1:-a.h.dr≤dl)(d2:dl≤a.h.dr)(e1:-a.h.dr≤du)(e2:du≤a.h.dr)(W:World)(hb:n≤W.heap.size)(U:PU w W0 W n B tb gb g1 g2 g2 a.c2 a ds i ps (⟨(i:Int),(0,0,0),(0,0,0),false,0,0⟩:Tn) d) :
  Calls Tryz.prog 47 #[.pointer (some ⟨tb,0,none⟩),I Z dl,I Z du] W fun e w'=>e=.returned (.tuple #[])∧∃ p3 c3 t',PU w W0 w' n B tb gb g1 g2 p3 c3 a ds i (ppl8 a.h a.rc ps i (mid8 a.h (freeD a.h d) (need8 a.h ds ps a.rc i 0) (need8 a.h ds ps a.rc i 1) dl du)) t' (end8 a.h (mid8 a.h (freeD a.h d) (need8 a.h ds ps a.rc i 0) (need8 a.h ds ps a.rc i 1) dl du)):=by
 have x1:=U.T.c 1 _ rfl
 have UU:=zH U
 clear U
 go_enter Tryz.func47,Tryz.ntmps47
 refine wp_scope_n 6 ?_
 refine wp_seq_cut (fun aa w'=>aa.defers = []∧aa.tmps.size=111∧aa.tmps[0]? = some (.pointer (some ⟨tb,0,none⟩))∧aa.tmps[1]? = some (I Z dl)∧aa.tmps[2]? = some (I Z du)∧∃ b6 b7 T6 T7,aa.tmps[6]? = some (.pointer (some ⟨b6,0,none⟩))∧aa.tmps[7]? = some (.pointer (some ⟨b7,0,none⟩))∧W.heap.size≤b6∧W.heap.size≤b7∧b6 ≠ b7∧w'.heap[b6]? = some (.cells (cabN tb g1 i 0 0 6 10).toArray T6 (0,0))∧w'.heap[b7]? = some (.cells (cabN tb g1 i 1 3 8 11).toArray T7 (0,0))∧Below W.heap.size W w') ?_ ?_
 ·go_wp2_with (go_at_call 84;refine (cabs_any tb g1 (i * 13) _ x1).mono ?_;rintro e w1 ⟨rfl,hb1⟩)
  refine ⟨hb1.size,by have:=hb1.size;omega,⟨139,by show ((w1.heap.push _).push _)[_]=_;simp [Array.getElem_push,cabN]⟩,⟨139,by show ((w1.heap.push _).push _)[_]=_;simp [Array.getElem_push,cabN]⟩,(hb1.alloc hb1.size _).alloc (by have:=hb1.size;simp;omega) _⟩
 ·rintro aa w' ⟨q1,q2,q3,q4,q5,b6,b7,T6,T7,q6,q7,l6,l7,l67,r6,r7,hb1⟩
  have U:=UU.out.below hb hb1
  have hb':n≤w'.heap.size:=Nat.le_trans hb hb1.size
  obtain ⟨f,hf⟩:∃ f:Nat→Nat × Nat,f=fun q=>cond (Nat.beq q 1073741830) (b6,0) (b7,0):=⟨_,rfl⟩
  have hC:WOk Tryz.prog (uD f w W0 X) (cTk a ds i):=cTk_ok f X hlp (by omega)
  have nW:∀ q,Sx.isW q=true→Nat.beq q 1073741830=false∧Nat.beq q 1073741831=false:=fun q hq=>by
   constructor
   ·cases e:Nat.beq q 1073741830
    ·rfl
    ·have:=Nat.eq_of_beq_eq_true e;subst this;cases hq
   ·cases e:Nat.beq q 1073741831
    ·rfl
    ·have:=Nat.eq_of_beq_eq_true e;subst this;cases hq
  have hJ:uJ w W0 n B tb gb g1 g2 a ds i ps (fun q=>cond (Nat.beq q 1073741830) (some (cabL0,T6)) (cond (Nat.beq q 1073741831) (some (cabL1,T7)) (uM a d (⟨(i:Int),(0,0,0),(0,0,0),false,0,0⟩:Tn) true q))) w':=⟨d,_,true,g2,a.c2,fun q hq=>by show cond _ _ _=_;rw [(nW q hq).1,(nW q hq).2];rfl,fun _=>⟨rfl,rfl⟩,U⟩
  have c14:=U.c14
  have l3:=X.l3
  have hi3:i≤2:=by have:=X.hi;have:=X.hn;omega
  refine piece_ok (L:=[iStp,iRls]) (C:=cTk a ds i) mo hC (s:=⟨111,0,fun i=>cond (Nat.beq i 0) (some (.pointer (some ⟨2199023255553,0,none⟩))) (cond (Nat.beq i 1) (some (I Z dl)) (cond (Nat.beq i 2) (some (I Z du)) (cond (Nat.beq i 6) (some (.pointer (some ⟨1073741830,0,none⟩))) (cond (Nat.beq i 7) (some (.pointer (some ⟨1073741831,0,none⟩))) (none))))),fun q=>cond (Nat.beq q 1073741830) (some (cabL0,T6)) (cond (Nat.beq q 1073741831) (some (cabL1,T7)) (uM a d (⟨(i:Int),(0,0,0),(0,0,0),false,0,0⟩:Tn) true q)),ps⟩) (Post:=(fun e s=>match e with | .ret | .normal=>PK s.g (s.m 2199023255552) (ppl8 a.h a.rc ps i (mid8 a.h (freeD a.h d) (need8 a.h ds ps a.rc i 0) (need8 a.h ds ps a.rc i 1) dl du)) (end8 a.h (mid8 a.h (freeD a.h d) (need8 a.h ds ps a.rc i 0) (need8 a.h ds ps a.rc i 1) dl du)) | _=>False)) (T:=jn (fun (J2:Int→Int→Int→Int→Int→Int→Bool→Int→Int→Int→Int→Int→Int→Bool→Int→Int→Prop)=>jn (fun (J1:Int→Int→Int→Int→Bool→Prop)=>cond (!d.hd) ((J1 d.sp.l.lo d.sp.l.hi d.sp.u.lo d.sp.u.hi d.hd)) (∀ x1:Bool,x1=((d.sh.lo.vel == 0) && (d.sh.up.vel == 0))→cond (!x1) ((J2 d.sp.l.lo d.sp.l.hi d.sp.u.lo d.sp.u.hi d.pl d.pu d.hd 0 0 0 0 0 0 false 0 0)) ((CarOk a.h d.sh.lo∧CarOk a.h d.sh.up)∧(J1 (((Hs.sensed a.h d.sh).l).lo) (((Hs.sensed a.h d.sh).l).hi) (((Hs.sensed a.h d.sh).u).lo) (((Hs.sensed a.h d.sh).u).hi) false)))) (fun (y1_0:Int) (y1_1:Int) (y1_2:Int) (y1_3:Int) (y1_4:Bool)=>(((i:Int)=i∧[I Z a.h.fl,I Z a.h.gp,I Z a.h.ln,I Z a.h.rf,I Z a.h.sp,I Z a.h.pu,I Z a.h.br,I Z a.h.dr,I Z a.h.lv,I Z a.h.dO,I Z a.h.ld,I Z a.h.qu,.slice (some ⟨1099511627777,0,none⟩) a.n a.c,I Z a.nx,.slice (some ⟨1099511627778,0,none⟩) a.np a.c2,I Z a.tk,.bool a.rc]=gRow a.h a.n a.c a.nx a.np a.c2 a.tk a.rc)∧Gr.fault ⟨a.h,ds.set i (⟨d.sh,(⟨(⟨y1_0,y1_1⟩:Sp),(⟨y1_2,y1_3⟩:Sp)⟩:Ss),d.pl,d.pu,y1_4⟩:Dk),⟨a.nx,ps⟩,a.tk,a.rc⟩=0)∧(∀ x2:Int,x2=((need8 a.h (ds.set i (⟨d.sh,(⟨(⟨y1_0,y1_1⟩:Sp),(⟨y1_2,y1_3⟩:Sp)⟩:Ss),d.pl,d.pu,y1_4⟩:Dk)) ps a.rc i 0).1)→∀ x3:Int,x3=((need8 a.h (ds.set i (⟨d.sh,(⟨(⟨y1_0,y1_1⟩:Sp),(⟨y1_2,y1_3⟩:Sp)⟩:Ss),d.pl,d.pu,y1_4⟩:Dk)) ps a.rc i 0).2.1)→∀ x4:Int,x4=((need8 a.h (ds.set i (⟨d.sh,(⟨(⟨y1_0,y1_1⟩:Sp),(⟨y1_2,y1_3⟩:Sp)⟩:Ss),d.pl,d.pu,y1_4⟩:Dk)) ps a.rc i 0).2.2)→∀ x5:Int,x5=((need8 a.h (ds.set i (⟨d.sh,(⟨(⟨y1_0,y1_1⟩:Sp),(⟨y1_2,y1_3⟩:Sp)⟩:Ss),d.pl,d.pu,y1_4⟩:Dk)) ps a.rc i 1).1)→∀ x6:Int,x6=((need8 a.h (ds.set i (⟨d.sh,(⟨(⟨y1_0,y1_1⟩:Sp),(⟨y1_2,y1_3⟩:Sp)⟩:Ss),d.pl,d.pu,y1_4⟩:Dk)) ps a.rc i 1).2.1)→∀ x7:Int,x7=((need8 a.h (ds.set i (⟨d.sh,(⟨(⟨y1_0,y1_1⟩:Sp),(⟨y1_2,y1_3⟩:Sp)⟩:Ss),d.pl,d.pu,y1_4⟩:Dk)) ps a.rc i 1).2.2)→([.pointer (some ⟨2199023255553,0,none⟩),I Z 0,.pointer (some ⟨2199023255552,0,none⟩),.pointer (some ⟨2199023255552,6,none⟩),.pointer (some ⟨2199023255552,10,none⟩)]=cabL0∧a.h.Ok∧(x2=0→-1≤x4∧x4≤a.h.fl)∧-100000000≤d.sh.lo.pos∧d.sh.lo.pos≤100000000)∧([.pointer (some ⟨2199023255553,0,none⟩),I Z 1,.pointer (some ⟨2199023255552,3,none⟩),.pointer (some ⟨2199023255552,8,none⟩),.pointer (some ⟨2199023255552,11,none⟩)]=cabL1∧a.h.Ok∧(x5=0→-1≤x7∧x7≤a.h.fl)∧-100000000≤d.sh.up.pos∧d.sh.up.pos≤100000000)∧∀ x8:Bool,x8=(decide (((x2,x3,x4),(x5,x6,x7)).1.1=0 ∨ ((x2,x3,x4),(x5,x6,x7)).2.1=0))→cond (!x8) ((J2 y1_0 y1_1 y1_2 y1_3 (opn8 a.h (x2,x3,x4) d.sh.lo d.pl) (opn8 a.h (x5,x6,x7) d.sh.up d.pu) y1_4 x2 x3 x4 x5 x6 x7 false 0 0)) ((DkOk a.h (⟨d.sh,(⟨(⟨y1_0,y1_1⟩:Sp),(⟨y1_2,y1_3⟩:Sp)⟩:Ss),(opn8 a.h (x2,x3,x4) d.sh.lo d.pl),(opn8 a.h (x5,x6,x7) d.sh.up d.pu),y1_4⟩:Dk)∧NeedIn a.h (x2,x3,x4)∧NeedIn a.h (x5,x6,x7)∧(x2=0 ∨ x5=0))∧(J2 (((extS (⟨(⟨y1_0,y1_1⟩:Sp),(⟨y1_2,y1_3⟩:Sp)⟩:Ss) (goal8 a.h d.sh (x2,x3,x4) (x5,x6,x7)).1 (goal8 a.h d.sh (x2,x3,x4) (x5,x6,x7)).2).l).lo) (((extS (⟨(⟨y1_0,y1_1⟩:Sp),(⟨y1_2,y1_3⟩:Sp)⟩:Ss) (goal8 a.h d.sh (x2,x3,x4) (x5,x6,x7)).1 (goal8 a.h d.sh (x2,x3,x4) (x5,x6,x7)).2).l).hi) (((extS (⟨(⟨y1_0,y1_1⟩:Sp),(⟨y1_2,y1_3⟩:Sp)⟩:Ss) (goal8 a.h d.sh (x2,x3,x4) (x5,x6,x7)).1 (goal8 a.h d.sh (x2,x3,x4) (x5,x6,x7)).2).u).lo) (((extS (⟨(⟨y1_0,y1_1⟩:Sp),(⟨y1_2,y1_3⟩:Sp)⟩:Ss) (goal8 a.h d.sh (x2,x3,x4) (x5,x6,x7)).1 (goal8 a.h d.sh (x2,x3,x4) (x5,x6,x7)).2).u).hi) (opn8 a.h (x2,x3,x4) d.sh.lo d.pl) (opn8 a.h (x5,x6,x7) d.sh.up d.pu) y1_4 x2 x3 x4 x5 x6 x7 true ((goal8 a.h d.sh (x2,x3,x4) (x5,x6,x7)).1) ((goal8 a.h d.sh (x2,x3,x4) (x5,x6,x7)).2)))))) (fun (y2_0:Int) (y2_1:Int) (y2_2:Int) (y2_3:Int) (y2_4:Int) (y2_5:Int) (y2_6:Bool) (y2_7:Int) (y2_8:Int) (y2_9:Int) (y2_10:Int) (y2_11:Int) (y2_12:Int) (y2_13:Bool) (y2_14:Int) (y2_15:Int)=>∀ x9:Int,x9=a.h.fl→∀ x10:Int,x10=a.h.gp→∀ x11:Int,x11=a.h.ln→∀ x12:Int,x12=a.h.rf→∀ x13:Int,x13=a.h.sp→∀ x14:Int,x14=a.h.pu→∀ x15:Int,x15=a.h.br→∀ x16:Int,x16=a.h.dr→∀ x17:Int,x17=a.h.lv→∀ x18:Int,x18=a.h.dO→∀ x19:Int,x19=a.h.ld→∀ x20:Int,x20=a.h.qu→([.pointer (some ⟨2199023255553,0,none⟩),I Z 0,.pointer (some ⟨2199023255552,0,none⟩),.pointer (some ⟨2199023255552,6,none⟩),.pointer (some ⟨2199023255552,10,none⟩)]=cabL0∧(⟨y2_0,y2_1⟩:Sp).lo≤(⟨y2_0,y2_1⟩:Sp).hi)∧(∀ x21:Int,x21=(cmd8 a.h ⟨(i:Int),(y2_7,y2_8,y2_9),(y2_10,y2_11,y2_12),y2_13,y2_14,y2_15⟩ d.sh.lo (⟨y2_0,y2_1⟩:Sp) y2_4 y2_14).push→∀ x22:Bool,x22=(cmd8 a.h ⟨(i:Int),(y2_7,y2_8,y2_9),(y2_10,y2_11,y2_12),y2_13,y2_14,y2_15⟩ d.sh.lo (⟨y2_0,y2_1⟩:Sp) y2_4 y2_14).brk→∀ x23:Bool,x23=(cmd8 a.h ⟨(i:Int),(y2_7,y2_8,y2_9),(y2_10,y2_11,y2_12),y2_13,y2_14,y2_15⟩ d.sh.lo (⟨y2_0,y2_1⟩:Sp) y2_4 y2_14).opn→([.pointer (some ⟨2199023255553,0,none⟩),I Z 1,.pointer (some ⟨2199023255552,3,none⟩),.pointer (some ⟨2199023255552,8,none⟩),.pointer (some ⟨2199023255552,11,none⟩)]=cabL1∧(⟨y2_2,y2_3⟩:Sp).lo≤(⟨y2_2,y2_3⟩:Sp).hi)∧(∀ x24:Int,x24=(cmd8 a.h ⟨(i:Int),(y2_7,y2_8,y2_9),(y2_10,y2_11,y2_12),y2_13,y2_14,y2_15⟩ d.sh.up (⟨y2_2,y2_3⟩:Sp) y2_5 y2_15).push→∀ x25:Bool,x25=(cmd8 a.h ⟨(i:Int),(y2_7,y2_8,y2_9),(y2_10,y2_11,y2_12),y2_13,y2_14,y2_15⟩ d.sh.up (⟨y2_2,y2_3⟩:Sp) y2_5 y2_15).brk→∀ x26:Bool,x26=(cmd8 a.h ⟨(i:Int),(y2_7,y2_8,y2_9),(y2_10,y2_11,y2_12),y2_13,y2_14,y2_15⟩ d.sh.up (⟨y2_2,y2_3⟩:Sp) y2_5 y2_15).opn→(Hs.stepK (⟨x9,x10,x11,x12,x13,x14,x15,x16,x17,x18,x19,x20⟩:Hs) d.sh (⟨x21,x22,x23⟩:Cm) (⟨x24,x25,x26⟩:Cm) dl du=0)∧(∀ x27:Int,x27=0→∀ x28:Int,x28=((Hs.stepS (⟨x9,x10,x11,x12,x13,x14,x15,x16,x17,x18,x19,x20⟩:Hs) d.sh (⟨x21,x22,x23⟩:Cm) (⟨x24,x25,x26⟩:Cm) dl du).lo).pos→∀ x29:Int,x29=((Hs.stepS (⟨x9,x10,x11,x12,x13,x14,x15,x16,x17,x18,x19,x20⟩:Hs) d.sh (⟨x21,x22,x23⟩:Cm) (⟨x24,x25,x26⟩:Cm) dl du).lo).vel→∀ x30:Int,x30=((Hs.stepS (⟨x9,x10,x11,x12,x13,x14,x15,x16,x17,x18,x19,x20⟩:Hs) d.sh (⟨x21,x22,x23⟩:Cm) (⟨x24,x25,x26⟩:Cm) dl du).lo).door→∀ x31:Int,x31=((Hs.stepS (⟨x9,x10,x11,x12,x13,x14,x15,x16,x17,x18,x19,x20⟩:Hs) d.sh (⟨x21,x22,x23⟩:Cm) (⟨x24,x25,x26⟩:Cm) dl du).up).pos→∀ x32:Int,x32=((Hs.stepS (⟨x9,x10,x11,x12,x13,x14,x15,x16,x17,x18,x19,x20⟩:Hs) d.sh (⟨x21,x22,x23⟩:Cm) (⟨x24,x25,x26⟩:Cm) dl du).up).vel→∀ x33:Int,x33=((Hs.stepS (⟨x9,x10,x11,x12,x13,x14,x15,x16,x17,x18,x19,x20⟩:Hs) d.sh (⟨x21,x22,x23⟩:Cm) (⟨x24,x25,x26⟩:Cm) dl du).up).door→([.pointer (some ⟨2199023255553,0,none⟩),I Z 0,.pointer (some ⟨2199023255552,0,none⟩),.pointer (some ⟨2199023255552,6,none⟩),.pointer (some ⟨2199023255552,10,none⟩)]=cabL0∧a.h.Ok∧CarOk a.h (⟨(⟨x28,x29,x30⟩:Cs),(⟨x31,x32,x33⟩:Cs)⟩:Sh).lo∧LdOk a.h ⟨a.nx,ps⟩∧0≤(i:Int)∧(i:Int)≤2)∧([.pointer (some ⟨2199023255553,0,none⟩),I Z 1,.pointer (some ⟨2199023255552,3,none⟩),.pointer (some ⟨2199023255552,8,none⟩),.pointer (some ⟨2199023255552,11,none⟩)]=cabL1∧a.h.Ok∧CarOk a.h (⟨(⟨x28,x29,x30⟩:Cs),(⟨x31,x32,x33⟩:Cs)⟩:Sh).up∧LdOk a.h ⟨a.nx,(endL a.h a.rc ps (i:Int) 0 (⟨(⟨x28,x29,x30⟩:Cs),(⟨x31,x32,x33⟩:Cs)⟩:Sh).lo y2_4)⟩∧0≤(i:Int)∧(i:Int)≤2)∧jn (fun (J3:Int→Int→Int→Int→Prop)=>cond (!y2_6) (∀ x34:Int,x34=a.h.fl→∀ x35:Int,x35=a.h.gp→∀ x36:Int,x36=a.h.ln→∀ x37:Int,x37=a.h.rf→∀ x38:Int,x38=a.h.sp→∀ x39:Int,x39=a.h.pu→∀ x40:Int,x40=a.h.br→∀ x41:Int,x41=a.h.dr→∀ x42:Int,x42=a.h.lv→∀ x43:Int,x43=a.h.dO→∀ x44:Int,x44=a.h.ld→∀ x45:Int,x45=a.h.qu→(Hs.relK (⟨x34,x35,x36,x37,x38,x39,x40,x41,x42,x43,x44,x45⟩:Hs) (⟨(⟨y2_0,y2_1⟩:Sp),(⟨y2_2,y2_3⟩:Sp)⟩:Ss) (⟨(⟨x28,x29,x30⟩:Cs),(⟨x31,x32,x33⟩:Cs)⟩:Sh)=0)∧(∀ x46:Int,x46=0→∀ x47:Int,x47=((Hs.relS (⟨x34,x35,x36,x37,x38,x39,x40,x41,x42,x43,x44,x45⟩:Hs) (⟨(⟨y2_0,y2_1⟩:Sp),(⟨y2_2,y2_3⟩:Sp)⟩:Ss) (⟨(⟨x28,x29,x30⟩:Cs),(⟨x31,x32,x33⟩:Cs)⟩:Sh)).l).lo→∀ x48:Int,x48=((Hs.relS (⟨x34,x35,x36,x37,x38,x39,x40,x41,x42,x43,x44,x45⟩:Hs) (⟨(⟨y2_0,y2_1⟩:Sp),(⟨y2_2,y2_3⟩:Sp)⟩:Ss) (⟨(⟨x28,x29,x30⟩:Cs),(⟨x31,x32,x33⟩:Cs)⟩:Sh)).l).hi→∀ x49:Int,x49=((Hs.relS (⟨x34,x35,x36,x37,x38,x39,x40,x41,x42,x43,x44,x45⟩:Hs) (⟨(⟨y2_0,y2_1⟩:Sp),(⟨y2_2,y2_3⟩:Sp)⟩:Ss) (⟨(⟨x28,x29,x30⟩:Cs),(⟨x31,x32,x33⟩:Cs)⟩:Sh)).u).lo→∀ x50:Int,x50=((Hs.relS (⟨x34,x35,x36,x37,x38,x39,x40,x41,x42,x43,x44,x45⟩:Hs) (⟨(⟨y2_0,y2_1⟩:Sp),(⟨y2_2,y2_3⟩:Sp)⟩:Ss) (⟨(⟨x28,x29,x30⟩:Cs),(⟨x31,x32,x33⟩:Cs)⟩:Sh)).u).hi→(J3 x47 x48 x49 x50))) ((J3 y2_0 y2_1 y2_2 y2_3))) (fun (y3_0:Int) (y3_1:Int) (y3_2:Int) (y3_3:Int)=>PK (endL a.h a.rc (endL a.h a.rc ps (i:Int) 0 (⟨(⟨x28,x29,x30⟩:Cs),(⟨x31,x32,x33⟩:Cs)⟩:Sh).lo y2_4) (i:Int) 1 (⟨(⟨x28,x29,x30⟩:Cs),(⟨x31,x32,x33⟩:Cs)⟩:Sh).up y2_5) (some (cellsD (⟨(⟨(⟨x28,x29,x30⟩:Cs),(⟨x31,x32,x33⟩:Cs)⟩:Sh),(⟨(⟨y3_0,y3_1⟩:Sp),(⟨y3_2,y3_3⟩:Sp)⟩:Ss),(endK a.h (⟨(⟨x28,x29,x30⟩:Cs),(⟨x31,x32,x33⟩:Cs)⟩:Sh).lo y2_4),(endK a.h (⟨(⟨x28,x29,x30⟩:Cs),(⟨x31,x32,x33⟩:Cs)⟩:Sh).up y2_5),y2_6⟩:Dk),0)) (ppl8 a.h a.rc ps i (mid8 a.h (freeD a.h d) (need8 a.h ds ps a.rc i 0) (need8 a.h ds ps a.rc i 1) dl du)) (end8 a.h (mid8 a.h (freeD a.h d) (need8 a.h ds ps a.rc i 0) (need8 a.h ds ps a.rc i 1) dl du)))))))) (by kernel_rfl) ?_ (fun e s' r a1 W1 hP hR=>?_) (uW f tb gb g1 g2 i) aa w' ?_
  ·have o:a.h.Ok:=Hs.ok_of (Hs.fault_zero ld.hf).1
   obtain ⟨n0,hn0⟩:∃ n,need8 a.h ds ps a.rc i 0=n:=⟨_,rfl⟩
   obtain ⟨n1,hn1⟩:∃ n,need8 a.h ds ps a.rc i 1=n:=⟨_,rfl⟩
   have NI0:NeedIn a.h n0:=hn0 ▸ need8_in ld a.rc i 0
   have NI1:NeedIn a.h n1:=hn1 ▸ need8_in ld a.rc i 1
   have E0:∀ e:Dk,e.sh=d.sh→need8 a.h (ds.set i e) ps a.rc i 0=n0:=fun e he=>(need8_set hd he i 0).trans hn0
   have E1:∀ e:Dk,e.sh=d.sh→need8 a.h (ds.set i e) ps a.rc i 1=n1:=fun e he=>(need8_set hd he i 1).trans hn1
   rw [hn0,hn1]
   obtain ⟨F,hF⟩:∃ F,freeD a.h d=F:=⟨_,rfl⟩
   have KF:DkOk a.h F:=hF ▸ free_ok K
   have f1:F.sh=d.sh:=by rw [← hF];unfold freeD;split <;> rfl
   have f2:F.pl=d.pl:=by rw [← hF];unfold freeD;split <;> rfl
   have f3:F.pu=d.pu:=by rw [← hF];unfold freeD;split <;> rfl
   rw [hF]
   have kl:=(shaft_parts K.s).1;have ku:=(shaft_parts K.s).2.1
   have KL:=Hs.car_zero kl;have KU:=Hs.car_zero ku
   have A:=o.all;have AL:=KL.all;have AU:=KU.all
   have hf0:=KL.hf
   have SP:=spn8_ok KF NI0 NI1
   have z0:=start_bd (h:=a.h) (hd:=F.hd) (n:=n0) (c:=d.sh.lo) (f2 ▸ KF.l0) (f2 ▸ KF.l2)
   have z1:=start_bd (h:=a.h) (hd:=F.hd) (n:=n1) (c:=d.sh.up) (f3 ▸ KF.u0) (f3 ▸ KF.u2)
   have y0:=start_door (h:=a.h) (hd:=F.hd) (n:=n0) (c:=d.sh.lo) (ph:=d.pl) K.dl
   have y1:=start_door (h:=a.h) (hd:=F.hd) (n:=n1) (c:=d.sh.up) (ph:=d.pu) K.du
   have MO:=mid_ok KF NI0 NI1 d1 d2 e1 e2
   refine jn_of (fun J=>∀ b1 b2 b3 b4 pl pu f u1 u2 u3 v1 v2 v3 led g1 g2,(⟨⟨b1,b2⟩,⟨b3,b4⟩⟩:Ss)=spn8 a.h F n0 n1→pl=startP a.h F.hd n0 d.sh.lo d.pl→pu=startP a.h F.hd n1 d.sh.up d.pu→f=F.hd→led = !still8 F n0 n1→(g1,g2)=gol8 a.h F n0 n1→J b1 b2 b3 b4 pl pu f u1 u2 u3 v1 v2 v3 led g1 g2) ?_ (fun J2 h2=>?_)
   ·intro b1 b2 b3 b4 pl pu f u1 u2 u3 v1 v2 v3 led g1 g2 hs hpl hpu hff hled hg
    rw [← hpl] at z0 y0
    rw [← hpu] at z1 y1
    have S:=SP
    rw [← hs] at S
    have c1:=S.a1;have c2:=S.a2;have c3:=S.a3;have c4:=S.a4;have c5:=S.a5
    have aL:=aim_in (x:=⟨b1,b2⟩) g1 c2
    have aU:=aim_in (x:=⟨b3,b4⟩) g2 c4
    dsimp only at c1 c2 c3 c4 c5 aL aU
    rintro x9 rfl x10 rfl x11 rfl x12 rfl x13 rfl x14 rfl x15 rfl x16 rfl x17 rfl x18 rfl x19 rfl x20 rfl
    refine ⟨⟨rfl,c2⟩,fun x21 h21 x22 h22 x23 h23=>⟨⟨rfl,c4⟩,fun x24 h24 x25 h25 x26 h26=>?_⟩⟩
    have ea:(⟨x21,x22,x23⟩:Cm)=cmdP a.h d.sh.lo pl (still8 F n0 n1) (aimS ⟨b1,b2⟩ g1):=by rw [h21,h22,h23];exact cmd8_P kl z0 y0 (by omega) hled
    have eb:(⟨x24,x25,x26⟩:Cm)=cmdP a.h d.sh.up pu (still8 F n0 n1) (aimS ⟨b3,b4⟩ g2):=by rw [h24,h25,h26];exact cmd8_P ku z1 y1 (by omega) hled
    rw [ea,eb]
    have em:mid8 a.h F n0 n1 dl du=⟨Hs.stepS a.h d.sh (cmdP a.h d.sh.lo pl (still8 F n0 n1) (aimS ⟨b1,b2⟩ g1)) (cmdP a.h d.sh.up pu (still8 F n0 n1) (aimS ⟨b3,b4⟩ g2)) dl du,⟨⟨b1,b2⟩,⟨b3,b4⟩⟩,pl,pu,f⟩:=by
     unfold mid8
     dsimp only
     rw [f1,f2,f3,← hs,← hg,hpl,hpu,hff]
    have hp:Hs.pairK a.h d.sh (cmdP a.h d.sh.lo pl (still8 F n0 n1) (aimS ⟨b1,b2⟩ g1)) (cmdP a.h d.sh.up pu (still8 F n0 n1) (aimS ⟨b3,b4⟩ g2))=0:=by
     unfold Hs.pairK;rw [if_pos K.s,if_pos (cmdP_ok hf0 _ _ _ _)];exact cmdP_ok hf0 _ _ _ _
    have ks:=MO.s
    have mp:=MO.p
    rw [em] at ks mp ⊢
    refine ⟨?_,fun x27 h27 x28 h28 x29 h29 x30 h30 x31 h31 x32 h32 x33 h33=>?_⟩
    ·show Hs.stepK a.h d.sh _ _ dl du=0
     unfold Hs.stepK;rw [if_pos hp,if_pos ⟨inB_iff.2 ⟨d1,d2⟩,inB_iff.2 ⟨e1,e2⟩⟩]
    have et:(⟨⟨x28,x29,x30⟩,⟨x31,x32,x33⟩⟩:Sh)=Hs.stepS a.h d.sh (cmdP a.h d.sh.lo pl (still8 F n0 n1) (aimS ⟨b1,b2⟩ g1)) (cmdP a.h d.sh.up pu (still8 F n0 n1) (aimS ⟨b3,b4⟩ g2)) dl du:=by rw [h28,h29,h30,h31,h32,h33]
    rw [← et] at ks mp ⊢
    have i0:0≤(i:Int)∧(i:Int)≤2:=by omega
    refine ⟨⟨rfl,o,Hs.car_zero (shaft_parts ks).1,ld,i0⟩,⟨rfl,o,Hs.car_zero (shaft_parts ks).2.1,endL_ok ld a.rc i 0 ⟨i0.1,i0.2,by omega,by omega⟩ _ _,i0⟩,?_⟩
    refine jn_of (fun J=>∀ c1 c2 c3 c4,(⟨⟨c1,c2⟩,⟨c3,c4⟩⟩:Ss)=(if f=true then ⟨⟨b1,b2⟩,⟨b3,b4⟩⟩ else Hs.relS a.h ⟨⟨b1,b2⟩,⟨b3,b4⟩⟩ ⟨⟨x28,x29,x30⟩,⟨x31,x32,x33⟩⟩)→J c1 c2 c3 c4) ?_ (fun J hJ=>?_)
    ·intro c1 c2 c3 c4 hc
     refine ⟨rfl,congrArg (fun D=>some (cellsD D,0)) ?_⟩
     unfold end8
     dsimp only
     rw [← hc]
    ·refine if_b (fun q=>?_) (fun q=>?_)
     ·have q':f=false:=by simpa using q
      rintro x34 rfl x35 rfl x36 rfl x37 rfl x38 rfl x39 rfl x40 rfl x41 rfl x42 rfl x43 rfl x44 rfl x45 rfl
      refine ⟨?_,fun x46 h46 x47 h47 x48 h48 x49 h49 x50 h50=>hJ _ _ _ _ ?_⟩
      ·show Hs.relK a.h _ _=0
       unfold Hs.relK;rw [if_pos (spans_zero_iff.2 mp)];exact ks
      ·rw [q',if_neg (by simp),h47,h48,h49,h50]
     ·have q':f=true:=by simpa using q
      exact hJ _ _ _ _ (by rw [if_pos q'])
   refine jn_of (fun J=>∀ b1 b2 b3 b4 f,(⟨d.sh,⟨⟨b1,b2⟩,⟨b3,b4⟩⟩,d.pl,d.pu,f⟩:Dk)=F→f=false→J b1 b2 b3 b4 f) ?_ (fun J1 h1=>?_)
   ·intro b1 b2 b3 b4 f hFe hf
    have Fh:F.hd=false:=by rw [← hFe];exact hf
    have Fs:(⟨⟨b1,b2⟩,⟨b3,b4⟩⟩:Ss)=F.sp:=by rw [← hFe]
    rw [hFe]
    refine ⟨⟨⟨rfl,rfl⟩,?_⟩,?_⟩
    ·exact fault_set dks KF ld aw X.hn (by have:=X.hi;have:=X.hn;omega) t1 t2
    intro x2 m2 x3 m3 x4 m4 x5 m5 x6 m6 x7 m7
    rw [E0 F f1] at m2 m3 m4
    rw [E1 F f1] at m5 m6 m7
    have en0:(x2,x3,x4)=n0:=by rw [m2,m3,m4]
    have en1:(x5,x6,x7)=n1:=by rw [m5,m6,m7]
    rw [en0,en1]
    have j0:=NI0
    have j1:=NI1
    unfold NeedIn at j0 j1
    rw [← m2,← m4] at j0
    rw [← m5,← m7] at j1
    refine ⟨⟨rfl,o,fun z=>by have:=j0 z;omega,by omega,by omega⟩,⟨rfl,o,fun z=>by have:=j1 z;omega,by omega,by omega⟩,?_⟩
    rintro x8 h8
    rw [opn8_P,opn8_P]
    rw [Fh] at z0 z1 y0 y1
    refine if_b (fun q=>?_) (fun q=>?_)
    ·have st:still8 F n0 n1=true:=by
      unfold still8 lead8
      simp only [h8,Bool.not_eq_true',decide_eq_false_iff_not,not_or] at q
      rw [if_pos ⟨q.1,q.2⟩,Fh];rfl
     refine h2 _ _ _ _ _ _ _ _ _ _ _ _ _ _ _ _ ?_ (by rw [Fh]) (by rw [Fh]) (by rw [Fh,hf]) (by rw [st];rfl) ?_
     ·unfold spn8;rw [if_pos st,Fs]
     ·unfold gol8;rw [if_pos st]
    ·have nn:x2=0 ∨ x5=0:=by
      rw [m2,m5]
      exact of_decide_eq_true (h8.symm.trans (by simpa using q))
     have st:still8 F n0 n1=false:=by
      unfold still8
      rcases lead_cases n0 n1 with e | ⟨e,_⟩ | ⟨e,_⟩
      ·exfalso
       unfold lead8 at e
       rw [← en0,← en1] at e
       dsimp only at e
       split at e
       ·omega
       ·split at e <;> omega
      ·rw [e,Fh];rfl
      ·rw [e,Fh];rfl
     refine ⟨⟨⟨K.s,?_,z0.1,z0.2,z1.1,z1.2,y0,y1⟩,NI0,NI1,nn⟩,h2 _ _ _ _ _ _ _ _ _ _ _ _ _ _ _ _ ?_ (by rw [Fh]) (by rw [Fh]) (by rw [Fh,hf]) (by rw [st];rfl) ?_⟩
     ·show SpOk a.h ⟨⟨b1,b2⟩,⟨b3,b4⟩⟩
      rw [Fs];exact KF.p
     ·unfold spn8;rw [st,if_neg (by simp),← Fs,f1]
     ·unfold gol8;rw [st,if_neg (by simp),f1]
   ·refine if_b (fun q=>?_) (fun q=>?_)
    ·have q':d.hd=false:=by simpa using q
     exact h1 _ _ _ _ _ (by rw [← hF];unfold freeD;rw [if_neg (by simp [q'])]) q'
    ·have q':d.hd=true:=by simpa using q
     rintro x1 rfl
     refine if_b (fun q2=>?_) (fun q2=>?_)
     ·have hFd:F=d:=by
       rw [← hF];unfold freeD;rw [if_neg]
       rintro ⟨_,b,c⟩;simp [b,c] at q2
      have st:still8 F n0 n1=true:=by unfold still8;rw [hFd,q'];rfl
      refine h2 _ _ _ _ _ _ _ _ _ _ _ _ _ _ _ _ ?_ ?_ ?_ (by rw [hFd]) (by rw [st];rfl) ?_
      ·unfold spn8;rw [if_pos st,hFd]
      ·unfold startP;rw [if_neg (by simp [hFd,q'])]
      ·unfold startP;rw [if_neg (by simp [hFd,q'])]
      ·unfold gol8;rw [if_pos st]
     ·refine ⟨⟨KL,KU⟩,h1 _ _ _ _ _ ?_ rfl⟩
      simp at q2
      rw [← hF];unfold freeD;rw [if_pos ⟨q',q2.1,q2.2⟩]
  ·have fin:PK s'.g (s'.m 2199023255552) (ppl8 a.h a.rc ps i (mid8 a.h (freeD a.h d) (need8 a.h ds ps a.rc i 0) (need8 a.h ds ps a.rc i 1) dl du)) (end8 a.h (mid8 a.h (freeD a.h d) (need8 a.h ds ps a.rc i 0) (need8 a.h ds ps a.rc i 1) dl du))→∃ p3 c3 t',PU w W0 W1 n B tb gb g1 g2 p3 c3 a ds i (ppl8 a.h a.rc ps i (mid8 a.h (freeD a.h d) (need8 a.h ds ps a.rc i 0) (need8 a.h ds ps a.rc i 1) dl du)) t' (end8 a.h (mid8 a.h (freeD a.h d) (need8 a.h ds ps a.rc i 0) (need8 a.h ds ps a.rc i 1) dl du)):=by
    rintro ⟨hg,hr⟩
    obtain ⟨d',t',full,p3,c3,e,_,V⟩:=hR.inv
    have e2:=e 2199023255552 (by decide)
    rw [hr,uM_ne rfl] at e2
    cases dk_inj (e2:some (cellsD _,0)=some (cellsD d',0))
    rw [hg] at V
    exact ⟨p3,c3,t',V⟩
   cases e <;> first | exact hP.elim | exact bodyPost_end (results_none rfl _ _ _) hR.defers ⟨rfl,fin hP⟩ | exact bodyPost_ret (v:=.tuple #[]) (results_none rfl _ _ _) hR.defers ⟨rfl,fin hP⟩
  ·refine ⟨q1,q2,fun j v h=>?_,fun j v h=>?_,fun q hq=>rfl,fun b cs T hw h hne=>?_,fun b c hw h=>?_,fun b c hw h=>?_,fun b cs T h=>?_,fun b c x y hw hw' h h' e=>?_,hb',hJ⟩
   ·rcases cond_some h with ⟨rfl,rfl⟩ | h
    ·exact q3
    rcases cond_some h with ⟨rfl,rfl⟩ | h
    ·exact q4
    rcases cond_some h with ⟨rfl,rfl⟩ | h
    ·exact q5
    rcases cond_some h with ⟨rfl,rfl⟩ | h
    ·rw [q6,hf];rfl
    rcases cond_some h with ⟨rfl,rfl⟩ | h
    ·rw [q7,hf];rfl
    cases h
   ·rcases cond_some h with ⟨rfl,rfl⟩ | h
    ·rfl
    rcases cond_some h with ⟨rfl,rfl⟩ | h
    ·trivial
    rcases cond_some h with ⟨rfl,rfl⟩ | h
    ·trivial
    rcases cond_some h with ⟨rfl,rfl⟩ | h
    ·rfl
    rcases cond_some h with ⟨rfl,rfl⟩ | h
    ·rfl
    cases h
   ·rcases cond_some h with ⟨rfl,e⟩ | h
    ·cases e;rw [hf];exact r6
    rcases cond_some h with ⟨rfl,e⟩ | h
    ·cases e;rw [hf];exact r7
    rw [uM_own b hw] at h;cases h
   ·rcases cond_some h with ⟨rfl,rfl⟩ | h
    ·rw [hf];exact ⟨⟨Nat.le_trans hb l6,fun p l c hc=>by rw [c14] at hc;cases hc;show b6 ≠ g2;omega⟩,rfl⟩
    rcases cond_some h with ⟨rfl,rfl⟩ | h
    ·rw [hf];exact ⟨⟨Nat.le_trans hb l7,fun p l c hc=>by rw [c14] at hc;cases hc;show b7 ≠ g2;omega⟩,rfl⟩
    rw [uM_own b hw] at h;cases h
   ·rcases cond_some h with ⟨rfl,rfl⟩ | h
    ·rw [hf];exact (Array.getElem?_eq_some_iff.1 r6).1
    rcases cond_some h with ⟨rfl,rfl⟩ | h
    ·rw [hf];exact (Array.getElem?_eq_some_iff.1 r7).1
    rw [uM_own b hw] at h;cases h
   ·cases hw:Sx.isW b
    ·intro c hc
     rcases cond_some h with ⟨rfl,e⟩ | h
     ·cases e
      simp only [cabL0,List.mem_cons,List.not_mem_nil,or_false] at hc
      rcases hc with rfl | rfl | rfl | rfl | rfl <;> first | rfl | trivial
     rcases cond_some h with ⟨rfl,e⟩ | h
     ·cases e
      simp only [cabL1,List.mem_cons,List.not_mem_nil,or_false] at hc
      rcases hc with rfl | rfl | rfl | rfl | rfl <;> first | rfl | trivial
     rw [uM_own b hw] at h;cases h
    ·exact fun c hc=>((uJ_cell f X ps _ w' b cs T hJ hw h).2.1 c hc).2
   ·rcases cond_some h with ⟨rfl,rfl⟩ | h <;> rcases cond_some h' with ⟨rfl,rfl⟩ | h'
    ·rfl
    ·rcases cond_some h' with ⟨rfl,rfl⟩ | h'
     ·rw [hf] at e;exact absurd e l67
     rw [uM_own c hw'] at h';cases h'
    ·rcases cond_some h with ⟨rfl,rfl⟩ | h
     ·rw [hf] at e;exact absurd e.symm l67
     rw [uM_own b hw] at h;cases h
    ·rcases cond_some h with ⟨rfl,rfl⟩ | h <;> rcases cond_some h' with ⟨rfl,rfl⟩ | h'
     ·rfl
     ·rw [uM_own c hw'] at h';cases h'
     ·rw [uM_own b hw] at h;cases h
     ·rw [uM_own b hw] at h;cases h
end Go.Proofs.YteimojoicfjdjaaGreat
