/- Parts of the proof: XPa. -/
import Derived.Test.YteimojoicfjdjaaGreatZ50
import Derived.Test.YteimojoicfjdjaaGreatZ51
namespace Go.Proofs.YteimojoicfjdjaaGreat
set_option maxRecDepth 20000
open Value renaming int → I
open IntKind renaming i64 → Z
open Go.RowKit Pl Sx
set_option linter.unusedVariables false
set_option linter.unusedSimpArgs false
theorem askd_ok{h:Hs}{x:Lg}{sh ca fl:Int}(k:LdOk h x)(s:0≤sh∧sh≤2)(c:0≤ca∧ca≤1)(f:0≤fl∧fl≤h.fl - 1):Hs.askd h x sh ca fl=0:=by
 unfold Hs.askd carB
 rw [if_pos (led_zero_iff.2 k),if_pos ⟨by rw [inB_iff.2 s,inB_iff.2 c];rfl,inB_iff.2 f⟩]
theorem tRow_inj{t t':Tn}(h:tRow t=tRow t'):t=t':=by
 obtain ⟨z,⟨a,b,c⟩,⟨d,e,f⟩,l,g,k⟩:=t
 obtain ⟨z',⟨a',b',c'⟩,⟨d',e',f'⟩,l',g',k'⟩:=t'
 simp only [tRow,tNum,List.cons.injEq,Value.int.injEq,Value.bool.injEq,true_and,and_true] at h
 simp [h]
theorem uJ_to{w W0:World}{n B tb gb g1 g2:Nat}{a:Gp}{ds:List Dk}{i:Nat}{γ γ1:List Pe}{m:Nat→Option Row}{W:World}{t:Tn}{d:Dk}(hg:γ=γ1)(hr:m 2199023255552=some (cellsD d,0))(ht:m 2199023255553=some (tRow t,0))(h:uJ w W0 n B tb gb g1 g2 a ds i γ m W) :
  ∃ full p2 c2,(∀ q,Sx.isW q=true→m q=uM a d t full q)∧(full=true→p2=g2∧c2=a.c2)∧PU w W0 W n B tb gb g1 g2 p2 c2 a ds i γ1 t d:=by
 obtain ⟨d',t',full,p2,c2,e,hf,U⟩:=h
 have e2:=e 2199023255552 (by decide)
 have e3:=e 2199023255553 (by decide)
 rw [hr,uM_ne rfl] at e2
 rw [ht,uM_ne rfl] at e3
 cases dk_inj (e2:some (cellsD d,0)=some (cellsD d',0))
 cases tRow_inj (congrArg Prod.fst (Option.some.inj (e3:some (tRow t,0)=some (tRow t',0))))
 subst hg
 exact ⟨full,p2,c2,e,hf,U⟩
theorem Gs.hrow{W w:World}{B gb g1 c1 g2 c2:Nat}{h:Hs}{ds:List Dk}{nx:Int}{ps:List Pe}{tk:Int}{rc:Bool}(G:Gs W w B gb g1 c1 g2 c2 h ds nx ps tk rc):∀ k v,(hRow h)[k]? = some v→W.cell? ⟨gb,k,none⟩=some v:=fun k v e=>G.f.c k v (by
 have hk:k < 12:=(List.getElem?_eq_some_iff.1 e).1
 match k,hk with
 | 0,_ | 1,_ | 2,_ | 3,_ | 4,_ | 5,_ | 6,_ | 7,_ | 8,_ | 9,_ | 10,_ | 11,_=>exact e)
theorem uK_below{n gb:Nat}{w w':World}(l1:gb < n)(hn:n≤w.heap.size)(hb:Below w.heap.size w w'):uK n gb w w':=⟨hb.size,fun k hk h=>⟨hb.block k hk,uA_of h (hb.block gb (by omega))⟩⟩
theorem house_u{w W0:World}{n B tb gb g1 g2:Nat}{a:Gp}{ds:List Dk}{i:Nat}(X:PX n B tb gb g1 g2 a ds i){γ:List Pe}{m:Nat→Option Row}(W:World)(hn:n≤W.heap.size)(J:uJ w W0 n B tb gb g1 g2 a ds i γ m W):Calls Tryz.prog 92 #[.pointer (some ⟨tb,0,none⟩)] W fun e w'=>e=.returned (hv a.h)∧uJ w W0 n B tb gb g1 g2 a ds i γ m w'∧uK n gb W w':=by
 obtain ⟨d,t,full,p2,c2,e,hf,U⟩:=J
 refine (house_any tb gb a.h W (U.T.c 0 _ rfl) U.G.hrow).mono ?_
 rintro e' w' ⟨rfl,hb⟩
 exact ⟨rfl,⟨d,t,full,p2,c2,e,hf,U.below hn hb⟩,uK_below X.l1 hn hb⟩
theorem PU.pass{w W0 W W1:World}{n B tb gb g1 g2 p2 c2 p c:Nat}{a:Gp}{ds:List Dk}{i:Nat}{γ γ':List Pe}{t:Tn}{d:Dk}(X:PX n B tb gb g1 g2 a ds i)(U:PU w W0 W n B tb gb g1 g2 p2 c2 a ds i γ t d)(hn:n≤W.heap.size)(hb:Below W.heap.size W W1)(ho:Ow W1 W.heap.size p γ.length c γ'):PU w W (putB W1 gb 13 [I Z a.nx,.slice (some ⟨p,0,none⟩) γ.length c]) W.heap.size B tb gb g1 p2 p c { a with c2:=c2 } ds i γ' t d:=by
 have hl:γ'.length=γ.length:=ho.1
 have lp:=ho.bl.1
 have l0:=X.l0;have l1:=X.l1;have l2:=X.l2;have lo:=U.G.lo
 have q1:=X.q1
 have G:=U.G.below hb
 refine ⟨Blk.putB_other q1 _ 13 (U.T.below hb U.T.lt),⟨?_,(G.d.other (p:=⟨gb,13,none⟩) (fun e=>G.n1 e.symm) _).other (p:=⟨gb,14,none⟩) (fun e=>G.n1 e.symm) _,?_,G.n1,?_,?_,G.lo,(G.fb.setCell (p:=⟨gb,13,none⟩) lo _).setCell (p:=⟨gb,14,none⟩) lo _⟩,hl.trans U.L,?_,⟨?_,fun k hk a b c d=>?_⟩,.inr lp⟩
 ·rw [hl]
  exact (G.f.set (k:=13) (I Z a.nx) (by simp)).set (k:=14) (.slice (some ⟨p,0,none⟩) γ.length c) (by simp)
 ·rw [hl]
  exact ((ho.base (by omega)).other (p:=⟨gb,13,none⟩) (by show p ≠ gb;omega) _).other (p:=⟨gb,14,none⟩) (by show p ≠ gb;omega) _
 ·omega
 ·have:=U.G.d.bl.2;omega
 ·omega
 ·simpa [putB] using hb.size
 ·exact (heap_setCell_other _ _ _ _ b).trans ((heap_setCell_other _ _ _ _ b).trans (hb.block k hk))
def iStF:Ent Tryz.prog:=e2 kH kC 149 (fun h_ c_=>some (h_.Ok∧CarOk h_ c_)) (fun h_ c_=>I Z (floor8 h_ c_)) fun h_ c_ p w=>have ⟨h1,h2⟩:=p _ rfl;stopOf_any h_ h1 c_ h2 w
def wPass(a:Gp):EntW:=⟨148,fun γ m az=>match az,m 1099511627776,m 2199023255553 with
 | [.pointer (some ⟨b,0,none⟩),I Z c,I Z f],some ([],_),some (_ :: _ :: I Z z :: _,_)=>cond (Nat.beq b 2199023255553) (some (some (LdOk a.h ⟨a.nx,γ⟩∧(0≤z∧z≤2)∧(0≤c∧c≤1)∧0≤f∧f≤a.h.fl - 1),.tuple #[],some (pass8 a.h a.rc z c f γ))) none
 | _,_,_=>none⟩
def cPa(a:Gp):Cf:=⟨[wHouse a,wPass a],fun _ _ _=>none,false,[]⟩
theorem cPa_ok{w W0:World}{n B tb gb g1 g2:Nat}{a:Gp}{ds:List Dk}{i:Nat}(X:PX n B tb gb g1 g2 a ds i)(hlp:a.np≤1048576):WOk Tryz.prog (uD (fun _=>(0,0)) w W0 X) (cPa a):=by
 refine ⟨fun f e he=>?_,fun f e he=>?_,fun T x i p v h=>by simp [cPa] at h,fun f e h=>by cases h⟩
 ·obtain ⟨hm,rfl⟩:=lookW_mem he
  simp only [cPa,List.mem_cons,List.not_mem_nil,or_false] at hm
  refine ⟨rfl,?_⟩
  rcases hm with rfl | rfl
  ·intro γ m az p v g hsp hp w1 hb1 J
   simp only [wHouse] at hsp
   split at hsp
   ·rename_i b
    cases hb:Nat.beq b 2199023255553 <;> rw [hb] at hsp <;> simp only [cond_false,cond_true,reduceCtorEq,Option.some.injEq,Prod.mk.injEq] at hsp
    obtain ⟨rfl,rfl,rfl⟩:=hsp
    cases Nat.eq_of_beq_eq_true hb
    exact house_u X w1 hb1 J
   ·cases hsp
  ·intro γ m az p v g hsp hp w1 hb1 ⟨d,t,full,p2,c2,e,hf,U⟩
   have e1:=e 2199023255553 (by decide)
   have e6:=e 1099511627776 (by decide)
   simp only [wPass] at hsp
   split at hsp
   ·rename_i b c f T1 v1 v2 z tl T2 hq6 hq
    cases hb:Nat.beq b 2199023255553 <;> rw [hb] at hsp <;> simp only [cond_false,cond_true,reduceCtorEq,Option.some.injEq,Prod.mk.injEq] at hsp
    obtain ⟨rfl,rfl,rfl⟩:=hsp
    cases Nat.eq_of_beq_eq_true hb
    obtain ⟨k,kz,kc,kf⟩:=hp _ rfl
    have hz:z=t.z:=by
     rw [hq,uM_ne rfl] at e1
     have:=congrArg (fun o=>(o.map (·.1)).bind (·[2]?)) e1
     simpa [pTn,tRow] using this
    subst hz
    cases full
    ·have hl:γ.length≤1048576:=by rw [U.L];exact hlp
     refine (letPass_g a.h tb gb g1 i B a.c p2 c2 t (ds.set i d) a.nx γ a.tk a.rc c f X.q1 hl (askd_ok k kz kc kf) (fun _=>askd_ok (led_alight k t.z c f) kz kc kf) w1 w U.T U.G).mono ?_
     rintro e' w' ⟨rfl,p,cc,W1,hb,ho,rfl⟩
     have V:=U.pass X hb1 hb ho
     exact ⟨rfl,⟨d,t,false,p,cc,e,by simp,U.then hb1 V⟩,U.k X hb1 V⟩
    ·rw [hq6] at e6;cases e6
   ·cases hsp
 ·obtain ⟨hm,_⟩:=lookW_mem he
  simp only [cPa,List.mem_cons,List.not_mem_nil,or_false] at hm
  intro γ m m' az h1
  have a1:=h1 1099511627776 (by decide)
  have a2:=h1 2199023255553 (by decide)
  rcases hm with rfl | rfl
  ·rfl
  ·simp only [wPass,a1,a2]
theorem uM_own{a:Gp}{d:Dk}{t:Tn}{full:Bool}:∀ q,Sx.isW q=false→uM a d t full q=none:=fun q hq=>by
 have:Nat.beq q 1099511627776=false:=by
  cases f:Nat.beq q 1099511627776
  ·rfl
  ·have:=Nat.eq_of_beq_eq_true f;subst this;cases hq
 rw [uM_ne this]
 exact pTn_own q hq
theorem pass0_w{w W0:World}{n B tb gb g1 g2:Nat}{a:Gp}{ds:List Dk}{i:Nat}(X:PX n B tb gb g1 g2 a ds i)(hlp:a.np≤1048576)(d:Dk)(t:Tn)(ps:List Pe)(o:a.h.Ok)(ck:CarOk a.h d.sh.lo)(ld:LdOk a.h ⟨a.nx,ps⟩)(kz:0≤t.z∧t.z≤2){p2 c2:Nat}(W:World)(hb:n≤W.heap.size)(U:PU w W0 W n B tb gb g1 g2 p2 c2 a ds i ps t d) :
  Calls Tryz.prog 94 #[.agg #[.pointer (some ⟨tb,0,none⟩),I Z 0,.pointer (some ⟨g1,i * 13,none⟩),.pointer (some ⟨g1,i * 13 + 6,none⟩),.pointer (some ⟨g1,i * 13 + 10,none⟩)]] W fun e w'=>e=.returned (.tuple #[])∧∃ p3 c3,PU w W0 w' n B tb gb g1 g2 p3 c3 a ds i (endL a.h a.rc ps t.z 0 d.sh.lo d.pl) t ⟨d.sh,d.sp,(endK a.h d.sh.lo d.pl),d.pu,d.hd⟩:=by
 have hC:WOk Tryz.prog (uD (fun _=>(0,0)) w W0 X) (cPa a):=cPa_ok X hlp
 refine (runs_ok (L:=[iStF]) (C:=cPa a) mo hC Tryz.func94 (args:=[.agg #[.pointer (some ⟨2199023255553,0,none⟩),I Z 0,.pointer (some ⟨2199023255552,0,none⟩),.pointer (some ⟨2199023255552,6,none⟩),.pointer (some ⟨2199023255552,10,none⟩)]]) (m:=uM a d t false) (g:=ps) (Post:=(fun vs s=>PT vs s.g (s.m 2199023255552) (s.m 2199023255553) [] (endL a.h a.rc ps t.z 0 d.sh.lo d.pl) (⟨d.sh,d.sp,(endK a.h d.sh.lo d.pl),d.pu,d.hd⟩) (t))) (T:=jn (fun (J1:Bool→Prop)=>cond (d.pl == 1) ((J1 (d.sh.lo.door == a.h.dO))) ((J1 false))) (fun (y1_0:Bool)=>cond y1_0 ((a.h.Ok∧CarOk a.h d.sh.lo)∧(LdOk a.h ⟨a.nx,ps⟩∧(0≤t.z∧t.z≤2)∧(0≤(0:Int)∧(0:Int)≤1)∧0≤(floor8 a.h d.sh.lo)∧(floor8 a.h d.sh.lo)≤a.h.fl - 1)∧PT [] (pass8 a.h a.rc t.z (0:Int) (floor8 a.h d.sh.lo) ps) (some (cellsD (⟨d.sh,d.sp,2,d.pu,d.hd⟩:Dk),0)) (some ([.pointer (some ⟨1099511627776,0,none⟩),.pointer (some ⟨2199023255552,0,none⟩),I Z t.z,I Z t.a.1,I Z t.a.2.1,I Z t.a.2.2,I Z t.b.1,I Z t.b.2.1,I Z t.b.2.2,.bool t.led,I Z t.g0,I Z t.g1],0)) [] (endL a.h a.rc ps t.z 0 d.sh.lo d.pl) (⟨d.sh,d.sp,(endK a.h d.sh.lo d.pl),d.pu,d.hd⟩) (t)) (cond (d.pl == 2) (cond (d.sh.lo.door == 0) (PT [] ps (some (cellsD (⟨d.sh,d.sp,0,d.pu,d.hd⟩:Dk),0)) (some ([.pointer (some ⟨1099511627776,0,none⟩),.pointer (some ⟨2199023255552,0,none⟩),I Z t.z,I Z t.a.1,I Z t.a.2.1,I Z t.a.2.2,I Z t.b.1,I Z t.b.2.1,I Z t.b.2.2,.bool t.led,I Z t.g0,I Z t.g1],0)) [] (endL a.h a.rc ps t.z 0 d.sh.lo d.pl) (⟨d.sh,d.sp,(endK a.h d.sh.lo d.pl),d.pu,d.hd⟩) (t)) (PT [] ps (some (cellsD d,0)) (some ([.pointer (some ⟨1099511627776,0,none⟩),.pointer (some ⟨2199023255552,0,none⟩),I Z t.z,I Z t.a.1,I Z t.a.2.1,I Z t.a.2.2,I Z t.b.1,I Z t.b.2.1,I Z t.b.2.2,.bool t.led,I Z t.g0,I Z t.g1],0)) [] (endL a.h a.rc ps t.z 0 d.sh.lo d.pl) (⟨d.sh,d.sp,(endK a.h d.sh.lo d.pl),d.pu,d.hd⟩) (t))) (PT [] ps (some (cellsD d,0)) (some ([.pointer (some ⟨1099511627776,0,none⟩),.pointer (some ⟨2199023255552,0,none⟩),I Z t.z,I Z t.a.1,I Z t.a.2.1,I Z t.a.2.2,I Z t.b.1,I Z t.b.2.1,I Z t.b.2.2,.bool t.led,I Z t.g0,I Z t.g1],0)) [] (endL a.h a.rc ps t.z 0 d.sh.lo d.pl) (⟨d.sh,d.sp,(endK a.h d.sh.lo d.pl),d.pu,d.hd⟩) (t))))) (by kernel_rfl) ?_ W hb uM_own ⟨d,t,false,p2,c2,fun _ _=>rfl,by simp,U⟩).mono ?_
 ·have fb:0≤floor8 a.h d.sh.lo∧floor8 a.h d.sh.lo≤a.h.fl - 1:=by have:=o.fl1;unfold floor8;omega
  refine jn_of (fun J=>J (decide (d.pl=1∧d.sh.lo.door=a.h.dO))) ?_ (fun J hJ=>?_)
  ·refine if_b (fun e=>?_) (fun e=>?_)
   ·have e:=of_decide_eq_true e
    refine ⟨⟨o,ck⟩,⟨ld,kz,by decide,fb.1,fb.2⟩,rfl,?_,?_,rfl⟩
    ·rw [endL,if_pos e];rfl
    ·rw [endK,if_pos e]
   ·have e:=of_decide_eq_false e
    have l:ps=endL a.h a.rc ps t.z 0 d.sh.lo d.pl:=by rw [endL,if_neg e]
    refine if_b (fun e2=>if_b (fun e3=>⟨rfl,l,?_,rfl⟩) (fun e3=>⟨rfl,l,?_,rfl⟩)) (fun e2=>⟨rfl,l,?_,rfl⟩)
    ·rw [endK,if_neg e,if_pos ⟨by simpa using e2,by simpa using e3⟩]
    ·rw [endK,if_neg e,if_neg (fun q=>by simp [q.2] at e3)]
    ·rw [endK,if_neg e,if_neg (fun q=>by simp [q.1] at e2)]
  ·refine if_b (fun e=>?_) (fun e=>?_)
   ·have q:decide (d.pl=1∧d.sh.lo.door=a.h.dO)=(d.sh.lo.door == a.h.dO):=by
     simp at e;rw [e];by_cases q:d.sh.lo.door=a.h.dO <;> simp [q]
    rw [q] at hJ;exact hJ
   ·have q:decide (d.pl=1∧d.sh.lo.door=a.h.dO)=false:=by simp at e;simp [e]
    rw [q] at hJ;exact hJ
 ·rintro e w' ⟨vs,s,rfl,⟨rfl,hg,hr,ht⟩,hJ,_⟩
  obtain ⟨full,p3,c3,_,_,V⟩:=uJ_to hg hr ht hJ
  exact ⟨rfl,p3,c3,V⟩
theorem pass1_w{w W0:World}{n B tb gb g1 g2:Nat}{a:Gp}{ds:List Dk}{i:Nat}(X:PX n B tb gb g1 g2 a ds i)(hlp:a.np≤1048576)(d:Dk)(t:Tn)(ps:List Pe)(o:a.h.Ok)(ck:CarOk a.h d.sh.up)(ld:LdOk a.h ⟨a.nx,ps⟩)(kz:0≤t.z∧t.z≤2){p2 c2:Nat}(W:World)(hb:n≤W.heap.size)(U:PU w W0 W n B tb gb g1 g2 p2 c2 a ds i ps t d) :
  Calls Tryz.prog 94 #[.agg #[.pointer (some ⟨tb,0,none⟩),I Z 1,.pointer (some ⟨g1,i * 13 + 3,none⟩),.pointer (some ⟨g1,i * 13 + 8,none⟩),.pointer (some ⟨g1,i * 13 + 11,none⟩)]] W fun e w'=>e=.returned (.tuple #[])∧∃ p3 c3,PU w W0 w' n B tb gb g1 g2 p3 c3 a ds i (endL a.h a.rc ps t.z 1 d.sh.up d.pu) t ⟨d.sh,d.sp,d.pl,(endK a.h d.sh.up d.pu),d.hd⟩:=by
 have hC:WOk Tryz.prog (uD (fun _=>(0,0)) w W0 X) (cPa a):=cPa_ok X hlp
 refine (runs_ok (L:=[iStF]) (C:=cPa a) mo hC Tryz.func94 (args:=[.agg #[.pointer (some ⟨2199023255553,0,none⟩),I Z 1,.pointer (some ⟨2199023255552,3,none⟩),.pointer (some ⟨2199023255552,8,none⟩),.pointer (some ⟨2199023255552,11,none⟩)]]) (m:=uM a d t false) (g:=ps) (Post:=(fun vs s=>PT vs s.g (s.m 2199023255552) (s.m 2199023255553) [] (endL a.h a.rc ps t.z 1 d.sh.up d.pu) (⟨d.sh,d.sp,d.pl,(endK a.h d.sh.up d.pu),d.hd⟩) (t))) (T:=jn (fun (J1:Bool→Prop)=>cond (d.pu == 1) ((J1 (d.sh.up.door == a.h.dO))) ((J1 false))) (fun (y1_0:Bool)=>cond y1_0 ((a.h.Ok∧CarOk a.h d.sh.up)∧(LdOk a.h ⟨a.nx,ps⟩∧(0≤t.z∧t.z≤2)∧(0≤(1:Int)∧(1:Int)≤1)∧0≤(floor8 a.h d.sh.up)∧(floor8 a.h d.sh.up)≤a.h.fl - 1)∧PT [] (pass8 a.h a.rc t.z (1:Int) (floor8 a.h d.sh.up) ps) (some (cellsD (⟨d.sh,d.sp,d.pl,2,d.hd⟩:Dk),0)) (some ([.pointer (some ⟨1099511627776,0,none⟩),.pointer (some ⟨2199023255552,0,none⟩),I Z t.z,I Z t.a.1,I Z t.a.2.1,I Z t.a.2.2,I Z t.b.1,I Z t.b.2.1,I Z t.b.2.2,.bool t.led,I Z t.g0,I Z t.g1],0)) [] (endL a.h a.rc ps t.z 1 d.sh.up d.pu) (⟨d.sh,d.sp,d.pl,(endK a.h d.sh.up d.pu),d.hd⟩) (t)) (cond (d.pu == 2) (cond (d.sh.up.door == 0) (PT [] ps (some (cellsD (⟨d.sh,d.sp,d.pl,0,d.hd⟩:Dk),0)) (some ([.pointer (some ⟨1099511627776,0,none⟩),.pointer (some ⟨2199023255552,0,none⟩),I Z t.z,I Z t.a.1,I Z t.a.2.1,I Z t.a.2.2,I Z t.b.1,I Z t.b.2.1,I Z t.b.2.2,.bool t.led,I Z t.g0,I Z t.g1],0)) [] (endL a.h a.rc ps t.z 1 d.sh.up d.pu) (⟨d.sh,d.sp,d.pl,(endK a.h d.sh.up d.pu),d.hd⟩) (t)) (PT [] ps (some (cellsD d,0)) (some ([.pointer (some ⟨1099511627776,0,none⟩),.pointer (some ⟨2199023255552,0,none⟩),I Z t.z,I Z t.a.1,I Z t.a.2.1,I Z t.a.2.2,I Z t.b.1,I Z t.b.2.1,I Z t.b.2.2,.bool t.led,I Z t.g0,I Z t.g1],0)) [] (endL a.h a.rc ps t.z 1 d.sh.up d.pu) (⟨d.sh,d.sp,d.pl,(endK a.h d.sh.up d.pu),d.hd⟩) (t))) (PT [] ps (some (cellsD d,0)) (some ([.pointer (some ⟨1099511627776,0,none⟩),.pointer (some ⟨2199023255552,0,none⟩),I Z t.z,I Z t.a.1,I Z t.a.2.1,I Z t.a.2.2,I Z t.b.1,I Z t.b.2.1,I Z t.b.2.2,.bool t.led,I Z t.g0,I Z t.g1],0)) [] (endL a.h a.rc ps t.z 1 d.sh.up d.pu) (⟨d.sh,d.sp,d.pl,(endK a.h d.sh.up d.pu),d.hd⟩) (t))))) (by kernel_rfl) ?_ W hb uM_own ⟨d,t,false,p2,c2,fun _ _=>rfl,by simp,U⟩).mono ?_
 ·have fb:0≤floor8 a.h d.sh.up∧floor8 a.h d.sh.up≤a.h.fl - 1:=by have:=o.fl1;unfold floor8;omega
  refine jn_of (fun J=>J (decide (d.pu=1∧d.sh.up.door=a.h.dO))) ?_ (fun J hJ=>?_)
  ·refine if_b (fun e=>?_) (fun e=>?_)
   ·have e:=of_decide_eq_true e
    refine ⟨⟨o,ck⟩,⟨ld,kz,by decide,fb.1,fb.2⟩,rfl,?_,?_,rfl⟩
    ·rw [endL,if_pos e];rfl
    ·rw [endK,if_pos e]
   ·have e:=of_decide_eq_false e
    have l:ps=endL a.h a.rc ps t.z 1 d.sh.up d.pu:=by rw [endL,if_neg e]
    refine if_b (fun e2=>if_b (fun e3=>⟨rfl,l,?_,rfl⟩) (fun e3=>⟨rfl,l,?_,rfl⟩)) (fun e2=>⟨rfl,l,?_,rfl⟩)
    ·rw [endK,if_neg e,if_pos ⟨by simpa using e2,by simpa using e3⟩]
    ·rw [endK,if_neg e,if_neg (fun q=>by simp [q.2] at e3)]
    ·rw [endK,if_neg e,if_neg (fun q=>by simp [q.1] at e2)]
  ·refine if_b (fun e=>?_) (fun e=>?_)
   ·have q:decide (d.pu=1∧d.sh.up.door=a.h.dO)=(d.sh.up.door == a.h.dO):=by
     simp at e;rw [e];by_cases q:d.sh.up.door=a.h.dO <;> simp [q]
    rw [q] at hJ;exact hJ
   ·have q:decide (d.pu=1∧d.sh.up.door=a.h.dO)=false:=by simp at e;simp [e]
    rw [q] at hJ;exact hJ
 ·rintro e w' ⟨vs,s,rfl,⟨rfl,hg,hr,ht⟩,hJ,_⟩
  obtain ⟨full,p3,c3,_,_,V⟩:=uJ_to hg hr ht hJ
  exact ⟨rfl,p3,c3,V⟩
end Go.Proofs.YteimojoicfjdjaaGreat
