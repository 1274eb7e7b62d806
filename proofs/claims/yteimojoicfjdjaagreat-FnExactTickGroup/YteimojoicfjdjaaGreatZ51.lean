/- Parts of the proof: XUd, XDk, XTk, XTg, CpI, GrpT. -/
import Derived.Test.YteimojoicfjdjaaGreatZ18
import Derived.Test.YteimojoicfjdjaaGreatZ30
import Derived.Test.YteimojoicfjdjaaGreatZ32
import Derived.Test.YteimojoicfjdjaaGreatZ33
import Derived.Test.YteimojoicfjdjaaGreatZ36
import Derived.Test.YteimojoicfjdjaaGreatZ46
import Derived.BigGuardPart
namespace Go.Proofs.YteimojoicfjdjaaGreat
open Go.RowKit Pl Sx
set_option linter.unusedVariables false
set_option linter.unusedSimpArgs false
theorem piece_ok{P:Program}{L:List (Ent P)}{C:Cf}{D:Wd}(hm:P.follows .mixedOrders=true)(hC:WOk P D C){d rest:Code}{s:St}{Post:Exit→St→Prop}{Q:Exit→Act→World→Prop}{T:Prop}(hT:cx P L C rest s (scl P L C d Post 6)=T)(h:T)
  (hQ:∀ e s' r a w,Post e s'→Rel D r s' a w→Q e a w) (r:Nat→Nat × Nat) (a:Act) (w:World) (hR:Rel D r s a w):rest.wp P (scopeQ P d Q 6) a w:=
 cx_ok hm hC rest s _ _ (hT ▸ h) (scl_ok hm hC hQ d 6) r a w hR
structure FrU(tb gb g1 g2 n:Nat)(W w:World):Prop where
 size:W.heap.size≤w.heap.size
 block:∀ k,k < n→k ≠ tb→k ≠ gb→k ≠ g1→k ≠ g2→w.heap[k]? = W.heap[k]?
structure PU(w W0 W:World)(n B tb gb g1 g2 p2 c2:Nat)(a:Gp)(ds:List Dk)(i:Nat)(γ:List Pe)(t:Tn)(d:Dk):Prop where
 T:Blk W tb (tPh gb g1 i t)
 G:Gs W w B gb g1 a.c p2 c2 a.h (ds.set i d) a.nx γ a.tk a.rc
 L:γ.length=a.np
 q:tb ≠ p2
 F:FrU tb gb g1 g2 n W0 W
 N:p2=g2 ∨ n≤p2
section
variable {w W0 W W':World} {n B tb gb g1 g2 p2 c2 p3 c3:Nat} {a:Gp} {ds:List Dk} {i:Nat} {γ γ':List Pe} {t t':Tn} {d d':Dk}
theorem PU.px(X:PX n B tb gb g1 g2 a ds i)(U:PU w W0 W n B tb gb g1 g2 p2 c2 a ds i γ t d):PX W.heap.size B tb gb g1 p2 { a with c2:=c2 } ds i:=
 ⟨X.hn,X.hi,X.q1,X.q2,U.q,U.T.lt,U.G.f.lt,U.G.d.bl.2,U.G.p.bl.2,X.lB⟩
theorem PU.ps(U:PU w W0 W n B tb gb g1 g2 p2 c2 a ds i γ t d):PS w W W W.heap.size B tb gb g1 p2 { a with c2:=c2 } ds i γ t d:=⟨U.T,U.G,Fr.refl _ _ _ _ _,U.L⟩
theorem PU.re(U:PU w W0 W n B tb gb g1 g2 p2 c2 a ds i γ t d):PU w W W W.heap.size B tb gb g1 p2 p2 c2 { a with c2:=c2 } ds i γ t d:=⟨U.T,U.G,U.L,U.q,⟨Nat.le_refl _,fun _ _ _ _ _ _=>rfl⟩,.inl rfl⟩
theorem PS.pu(P:PS w W W' W.heap.size B tb gb g1 g2 a ds i γ t d)(q:tb ≠ g2):PU w W W' W.heap.size B tb gb g1 g2 g2 a.c2 a ds i γ t d:=⟨P.T,P.G,P.L,q,⟨P.F.size,fun k hk x _ y z=>P.F.block k hk x y z⟩,.inl rfl⟩
theorem PU.then(U:PU w W0 W n B tb gb g1 g2 p2 c2 a ds i γ t d)(hn:n≤W.heap.size)(V:PU w W W' W.heap.size B tb gb g1 p2 p3 c3 { a with c2:=c2 } ds i γ' t' d'):PU w W0 W' n B tb gb g1 g2 p3 c3 a ds i γ' t' d':=by
 refine ⟨V.T,V.G,V.L,V.q,⟨Nat.le_trans U.F.size V.F.size,fun k hk x y z u=>(V.F.block k (by omega) x y z ?_).trans (U.F.block k hk x y z u)⟩,?_⟩
 ·rcases U.N with e | e <;> omega
 ·rcases V.N with e | e
  ·rw [e];exact U.N
  ·right;omega
theorem PU.below(U:PU w W0 W n B tb gb g1 g2 p2 c2 a ds i γ t d)(hn:n≤W.heap.size)(hb:Below W.heap.size W W'):PU w W0 W' n B tb gb g1 g2 p2 c2 a ds i γ t d:=
 U.then hn ⟨U.T.below hb U.T.lt,U.G.below hb,U.L,U.q,⟨hb.size,fun k hk _ _ _ _=>hb.block k hk⟩,.inl rfl⟩
end
def uA(n gb:Nat)(w:World)(k:Nat):Prop:=n≤k∧∀ p l c,w.cell? ⟨gb,14,none⟩=some (.slice (some ⟨p,0,none⟩) l c)→k ≠ p
def uK(n gb:Nat)(w w':World):Prop:=w.heap.size≤w'.heap.size∧∀ k,k < w.heap.size→uA n gb w k→w'.heap[k]? = w.heap[k]?∧uA n gb w' k
theorem uA_of{n gb:Nat}{w w':World}{k:Nat}(h:uA n gb w k)(e:w'.heap[gb]? = w.heap[gb]?):uA n gb w' k:=
 ⟨h.1,fun p l c hc=>h.2 p l c (by rw [World.cell?_of_block (a:=⟨gb,14,none⟩) e] at hc;exact hc)⟩
theorem PU.c14{w W0 W:World}{n B tb gb g1 g2 p2 c2:Nat}{a:Gp}{ds:List Dk}{i:Nat}{γ:List Pe}{t:Tn}{d:Dk}(U:PU w W0 W n B tb gb g1 g2 p2 c2 a ds i γ t d):W.cell? ⟨gb,14,none⟩=some (.slice (some ⟨p2,0,none⟩) γ.length c2):=U.G.f.c 14 _ rfl
theorem PU.ne{w W0 W:World}{n B tb gb g1 g2 p2 c2:Nat}{a:Gp}{ds:List Dk}{i:Nat}{γ:List Pe}{t:Tn}{d:Dk}(U:PU w W0 W n B tb gb g1 g2 p2 c2 a ds i γ t d){m k:Nat}(h:uA m gb W k):k ≠ p2:=h.2 _ _ _ U.c14
theorem PU.k{w W0 W W':World}{n B tb gb g1 g2 p2 c2 p3 c3:Nat}{a:Gp}{ds:List Dk}{i:Nat}{γ γ':List Pe}{t t':Tn}{d d':Dk}(X:PX n B tb gb g1 g2 a ds i)(U:PU w W0 W n B tb gb g1 g2 p2 c2 a ds i γ t d)(hn:n≤W.heap.size)(V:PU w W W' W.heap.size B tb gb g1 p2 p3 c3 { a with c2:=c2 } ds i γ' t' d'):uK n gb W W':=by
 refine ⟨V.F.size,fun k hk h=>?_⟩
 have h1:=h.1
 have l0:=X.l0;have l1:=X.l1;have l2:=X.l2
 refine ⟨V.F.block k hk (by omega) (by omega) (by omega) (U.ne h),h1,fun p l c hc=>?_⟩
 rw [V.c14] at hc
 cases hc
 rcases V.N with e | e
 ·rw [e];exact U.ne h
 ·omega
def uM(a:Gp)(d:Dk)(t:Tn)(full:Bool):Nat→Option Row:=fun q=>cond (Nat.beq q 1099511627776 && !full) (some ([],0)) (pTn a d t q)
def uJ(w W0:World)(n B tb gb g1 g2:Nat)(a:Gp)(ds:List Dk)(i:Nat)(γ:List Pe)(m:Nat→Option Row)(W:World):Prop:=
 ∃ d t full p2 c2,(∀ q,Sx.isW q=true→m q=uM a d t full q)∧(full=true→p2=g2∧c2=a.c2)∧PU w W0 W n B tb gb g1 g2 p2 c2 a ds i γ t d
def uW(f:Nat→Nat × Nat)(tb gb g1 g2 i:Nat):Nat→Nat × Nat:=fun q=>cond (Nat.beq q 2199023255553) (tb,0) (cond (Sx.isW q) (gW gb g1 g2 i q) (f q))
theorem uM_ne{a:Gp}{d:Dk}{t:Tn}{full:Bool}{q:Nat}(h:Nat.beq q 1099511627776=false):uM a d t full q=pTn a d t q:=by unfold uM;rw [h];rfl
theorem pTn_c{a:Gp}{d:Dk}{t:Tn}{c q:Nat}(h:Nat.beq q 1099511627776=false):pTn { a with c2:=c } d t q=pTn a d t q:=by unfold pTn gM;rw [h];rfl
theorem rw_cases{a:Gp}{d:Dk}{t:Tn}{q:Nat}(h:isRW q=true)(k:(pTn a d t q).isSome=true):q=2199023255553 ∨ q=2199023255552:=by
 unfold pTn at k
 cases e:Nat.beq q 2199023255553
 ·rw [e] at k;exact .inr (gM_rw h k)
 ·exact .inl (Nat.eq_of_beq_eq_true e)
theorem rw_grp{q:Nat}(h:isRW q=true):Nat.beq q 1099511627776=false:=by
 cases f:Nat.beq q 1099511627776
 ·rfl
 ·have:=Nat.eq_of_beq_eq_true f;subst this;cases h
theorem cellsD_flat(D:Dk):∀ c ∈ cellsD D,flat1 c=true:=fun c hc=>by
 simp only [cellsD,List.mem_cons,List.not_mem_nil,or_false] at hc
 rcases hc with rfl | rfl | rfl | rfl | rfl | rfl | rfl | rfl | rfl | rfl | rfl | rfl | rfl <;> rfl
theorem uJ_cell(f:Nat→Nat × Nat){w W0:World}{n B tb gb g1 g2:Nat}{a:Gp}{ds:List Dk}{i:Nat}(X:PX n B tb gb g1 g2 a ds i)(γ:List Pe)(m:Nat→Option Row)(W:World)(q:Nat)(cs:List Value)(T:TypeId)(hJ:uJ w W0 n B tb gb g1 g2 a ds i γ m W)(hq:Sx.isW q=true)(hm:m q=some (cs,T)) :
  (uW f tb gb g1 g2 i q).1 < n∧(∀ c ∈ cs,fw1 c=true∧ok1 m c)∧∀ j v,cs[j]? = some v→W.cell? ⟨(uW f tb gb g1 g2 i q).1,(uW f tb gb g1 g2 i q).2 + j,none⟩=some (ren1 (uW f tb gb g1 g2 i) v):=by
 obtain ⟨d,t,full,p2,c2,e,hf,U⟩:=hJ
 have hW:(uW f tb gb g1 g2 i q).1 < n:=by
  unfold uW
  rw [hq]
  unfold gW
  cases Nat.beq q 2199023255553 <;> cases Nat.beq q 1099511627776 <;> cases Nat.beq q 2199023255552 <;> cases Nat.beq q 1099511627777 <;> first | exact X.l0 | exact X.l1 | exact X.l2 | exact X.l3
 refine ⟨hW,?_⟩
 rw [e q hq] at hm
 cases e1:Nat.beq q 1099511627776
 ·rw [uM_ne e1] at hm
  unfold pTn at hm
  cases e2:Nat.beq q 2199023255553 <;> rw [e2] at hm <;> simp only [cond_false,cond_true,Option.some.injEq,Prod.mk.injEq] at hm
  ·have G:GJ w W W.heap.size B tb gb g1 p2 { a with c2:=c2 } ds i γ (gM { a with c2:=c2 } d) W:=⟨d,fun _ _=>rfl,U.L,Fr.refl _ _ _ _ _,U.G⟩
   have Y:=U.px X
   have hm':gM { a with c2:=c2 } d q=some (cs,T):=by rw [← hm];unfold gM;rw [e1];rfl
   have:=(gD0 w W B tb gb g1 p2 W.heap.size { a with c2:=c2 } ds i Y.hn Y.hi Y.l1 Y.l2 Y.l3).cell γ _ W q cs T G hq hm'
   obtain ⟨_,h2,h3⟩:=this
   unfold gM at hm
   rw [e1] at hm
   cases e3:Nat.beq q 2199023255552 <;> rw [e3] at hm <;> simp only [cond_false,cond_true,Option.some.injEq,Prod.mk.injEq] at hm
   ·cases e4:Nat.beq q 1099511627777 <;> rw [e4] at hm <;> simp only [cond_false,cond_true,Option.some.injEq,Prod.mk.injEq] at hm
    ·cases e5:Nat.beq q 1099511627778 <;> rw [e5] at hm <;> simp only [cond_false,cond_true,Option.some.injEq,Prod.mk.injEq,reduceCtorEq] at hm
     obtain ⟨rfl,rfl⟩:=hm
     exact ⟨by simp,by simp⟩
    ·obtain ⟨rfl,rfl⟩:=hm
     exact ⟨by simp,by simp⟩
   ·obtain ⟨rfl,rfl⟩:=hm
    refine ⟨fun c hc=>⟨?_,ok1_flat (cellsD_flat d c hc)⟩,fun j v hv=>?_⟩
    ·have:=cellsD_flat d c hc
     unfold flat1 at this;unfold fw1;split <;> simp_all
    ·have hc:=h3 j v hv
     have hfl:=cellsD_flat d v (List.mem_of_getElem? hv)
     rw [ren1_flat hfl] at hc ⊢
     have:=Nat.eq_of_beq_eq_true e3
     subst this
     exact hc
  ·obtain ⟨rfl,rfl⟩:=hm
   have:=Nat.eq_of_beq_eq_true e2
   subst this
   refine ⟨fun c hc=>?_,fun j v hv=>?_⟩
   ·have s1:(m 1099511627776).isSome=true:=by rw [e _ (by decide)];cases full <;> rfl
    have s2:(m 2199023255552).isSome=true:=by rw [e _ (by decide)];cases full <;> rfl
    simp only [tRow,tNum,List.mem_cons,List.not_mem_nil,or_false] at hc
    rcases hc with rfl | rfl | rfl | rfl | rfl | rfl | rfl | rfl | rfl | rfl | rfl | rfl <;> first | exact ⟨rfl,trivial⟩ | exact ⟨by decide,s1⟩ | exact ⟨by decide,s2⟩
   ·show W.cell? ⟨tb,0 + j,none⟩=_
    rw [Nat.zero_add]
    exact U.T.c j _ (by show ((tRow t).map (ren1 (uW f tb gb g1 g2 i)))[j]? = _;rw [List.getElem?_map,hv];rfl)
 ·have:=Nat.eq_of_beq_eq_true e1
  subst this
  cases full
  ·cases hm
   exact ⟨by simp,by simp⟩
  ·obtain ⟨rfl,rfl⟩:=hf rfl
   have G:GJ w W W.heap.size B tb gb g1 p2 a ds i γ (gM a d) W:=⟨d,fun _ _=>rfl,U.L,Fr.refl _ _ _ _ _,U.G⟩
   have Y:=U.px X
   have:=(gD0 w W B tb gb g1 p2 W.heap.size a ds i Y.hn Y.hi Y.l1 Y.l2 Y.l3).cell γ _ W 1099511627776 cs T G hq hm
   obtain ⟨_,h2,h3⟩:=this
   refine ⟨fun c hc=>⟨(h2 c hc).1,?_⟩,fun j v hv=>?_⟩
   ·cases hm
    simp only [gRow,List.mem_cons,List.not_mem_nil,or_false] at hc
    have s1:(m 1099511627777).isSome=true:=by rw [e _ (by decide)];rfl
    have s2:(m 1099511627778).isSome=true:=by rw [e _ (by decide)];rfl
    rcases hc with rfl | rfl | rfl | rfl | rfl | rfl | rfl | rfl | rfl | rfl | rfl | rfl | rfl | rfl | rfl | rfl | rfl <;> first | exact trivial | exact s1 | exact s2
   ·refine (h3 j v hv).trans ?_
    cases hm
    have hv:=List.mem_of_getElem? hv
    simp only [gRow,List.mem_cons,List.not_mem_nil,or_false] at hv
    rcases hv with rfl | rfl | rfl | rfl | rfl | rfl | rfl | rfl | rfl | rfl | rfl | rfl | rfl | rfl | rfl | rfl | rfl <;> rfl
def uD(f:Nat→Nat × Nat)(w W0:World){n B tb gb g1 g2:Nat}{a:Gp}{ds:List Dk}{i:Nat}(X:PX n B tb gb g1 g2 a ds i):Wd where
 n0:=n
 W:=uW f tb gb g1 g2 i
 J:=uJ w W0 n B tb gb g1 g2 a ds i
 A:=uA n gb
 K:=uK n gb
 ext:=fun γ m m' W hm ⟨d,t,full,p2,c2,e,r⟩=>⟨d,t,full,p2,c2,fun q hq=>(hm q hq).trans (e q hq),r⟩
 below:=fun γ m w1 w2 hn hb ⟨d,t,full,p2,c2,e,hf,U⟩=>⟨d,t,full,p2,c2,e,hf,U.below hn hb⟩
 own:=fun γ m w1 k x hn hk ⟨d,t,full,p2,c2,e,hf,U⟩=>by
  have h1:=hk.1
  have l0:=X.l0;have l1:=X.l1;have l2:=X.l2;have lB:=X.lB
  have hg:w1.grownBy (w1.setRow k x) (some k):=⟨rfl,rfl,rfl,by simp,fun j hj hne=>setRow_other _ _ _ _ (fun e=>hne (by rw [e]))⟩
  have ne:=U.ne hk
  exact ⟨d,t,full,p2,c2,e,hf,U.T.row_other (by omega) x,⟨U.G.f.row_other (by omega) x,U.G.d.kept hg (fun e=>by have:=Option.some.inj e;omega),U.G.p.kept hg (fun e=>ne (Option.some.inj e).symm),U.G.n1,U.G.n2,U.G.n12,U.G.lo,U.G.fb.grown hg (by omega) (fun j hj=>by have e:=Option.some.inj hj;omega)⟩,U.L,U.q,⟨by simpa using U.F.size,fun j hj a b c d=>(setRow_other _ _ _ _ (by omega)).trans (U.F.block j hj a b c d)⟩,U.N⟩
 cell:=uJ_cell f X
 write:=fun γ m w1 q cs T j u v hJ hq hm hu hk=>by
  obtain ⟨d,t,full,p2,c2,e,hf,U⟩:=hJ
  have hg:=rw_grp hq
  rw [e q (rw_w hq),uM_ne hg] at hm
  have hq2:=rw_cases hq (by rw [hm];rfl)
  have hW:uW f tb gb g1 g2 i q=(pD w w1 (U.px X)).W q:=by rcases hq2 with rfl | rfl <;> rfl
  obtain ⟨h1,h2⟩:=(pD w w1 (U.px X)).write γ (pTn { a with c2:=c2 } d t) w1 q cs T j u v (PS.of (U.px X) U.ps) hq (by rw [pTn_c hg];exact hm) hu hk
  rw [hW]
  refine ⟨h1,?_⟩
  obtain ⟨d',t',P,hr⟩:=J_eq (U.px X) h2
  refine ⟨d',t',full,p2,c2,fun x hx=>?_,hf,P.T,P.G,P.L,U.q,⟨by simpa using U.F.size,fun k hk a b c dd=>?_⟩,U.N⟩
  ·have h3:=hr x hx
   cases ex:Nat.beq x 1099511627776
   ·rw [uM_ne ex,← pTn_c ex (c:=c2),← h3]
    show cond (Nat.beq x q) (some (cs.set j v,T)) (m x)=_
    cases Nat.beq x q
    ·show m x=pTn _ d t x
     exact ((e x hx).trans (uM_ne ex)).trans (pTn_c ex).symm
    ·rfl
   ·have:=Nat.eq_of_beq_eq_true ex
    subst this
    have:Nat.beq 1099511627776 q=false:=by rcases hq2 with rfl | rfl <;> rfl
    show cond (Nat.beq 1099511627776 q) (some (cs.set j v,T)) (m _)=_
    rw [this]
    show m _=_
    rw [e _ hx]
    cases full <;> rfl
  ·refine (heap_setCell_other _ _ _ _ ?_).trans (U.F.block k hk a b c dd)
   rcases hq2 with rfl | rfl
   ·exact a
   ·exact c
 aW:=fun γ m w1 q cs T k hJ hq hm h=>by
  have:=(uJ_cell f X γ m w1 q cs T hJ hq hm).1
  have:=h.1
  omega
 aNew:=fun γ m w1 o hn ⟨d,t,full,p2,c2,e,hf,U⟩=>⟨hn,fun p l c hc=>by
  have l1:=U.G.f.lt
  rw [World.cell?_of_block (w:=w1) (a:=⟨gb,14,none⟩) (Below.heap_alloc _ _ _ l1),U.c14] at hc
  cases hc
  exact fun e=>by have:=U.G.p.bl.2;omega⟩
 aBelow:=fun w1 w2 k hn hb hk h=>uA_of h (hb.block gb (by have:=X.l1;omega))
 aRow:=fun w1 k x j h h'=>uA_of h' (setRow_other _ _ _ _ (by have:=h.1;have:=X.l1;omega))
 aCell:=fun γ m w1 q cs T j u v k hJ hq hm hu hk h=>by
  obtain ⟨d,t,full,p2,c2,e,hf,U⟩:=hJ
  have hg:=rw_grp hq
  rw [e q (rw_w hq),uM_ne hg] at hm
  refine uA_of h (heap_setCell_other _ _ _ _ ?_)
  rcases rw_cases hq (by rw [hm];rfl) with rfl | rfl
  ·exact fun e=>X.q1 e.symm
  ·exact U.G.n1
 kK:=fun w1 w2 h=>h
end Go.Proofs.YteimojoicfjdjaaGreat
namespace Go.Proofs.YteimojoicfjdjaaGreat
open Value renaming int → I
open IntKind renaming i64 → Z
open Go.RowKit Pl Sx
set_option linter.unusedVariables false
set_option linter.unusedSimpArgs false
theorem car_bounds{h:Hs}{s:Sh}(k:h.shaft s=0)(ca:Int):-100000000≤(carAt s ca).pos∧(carAt s ca).pos≤100000000:=by
 obtain ⟨k1,k2,_⟩:=shaft_parts k
 have a:=Hs.car_zero k1
 have b:=Hs.car_zero k2
 have o:=(Hs.ok_of (Hs.fault_zero a.hf).1).ends
 have a1:=a.p1;have a2:=a.p2;have b1:=b.p1;have b2:=b.p2
 unfold carAt
 split
 ·exact ⟨by omega,by omega⟩
 ·exact ⟨by omega,by omega⟩
def nd8(n0 n1:Int × Int × Int)(c:Int):Int × Int × Int:=if c=0 then n0 else n1
section
variable (a:Gp) (ps:List Pe) (i:Nat) (d:Dk) (n0 n1:Int × Int × Int)
def wStarts:EntW:=⟨63,fun γ m az=>match az,m 2199023255552 with
 | [.pointer (some ⟨b,0,none⟩),I Z i',I Z c,I Z p],some (cs,_)=>cond (Nat.beq b 1099511627776) (match pDk cs with
  | some D=>some (some (i'=i∧(c=0 ∨ c=1)∧D.sh=d.sh∧γ=ps),I Z (startP a.h D.hd (nd8 n0 n1 c) (carAt D.sh c) p),none)
  | none=>none) none
 | _,_=>none⟩
def wLead:EntW:=⟨64,fun γ m az=>match az,m 2199023255552 with
 | [.pointer (some ⟨b,0,none⟩),I Z i'],some (cs,_)=>cond (Nat.beq b 1099511627776) (match pDk cs with
  | some D=>some (some (i'=i∧D.sh=d.sh∧γ=ps),I Z (lead8 n0 n1),none)
  | none=>none) none
 | _,_=>none⟩
def wNeed1:EntW:=⟨65,fun γ m az=>match az,m 2199023255552 with
 | [.pointer (some ⟨b,0,none⟩),I Z i',I Z c],some (cs,_)=>cond (Nat.beq b 1099511627776) (match pDk cs with
  | some D=>some (some (i'=i∧(c=0 ∨ c=1)∧D.sh=d.sh∧γ=ps),.agg #[I Z (nd8 n0 n1 c).1,I Z (nd8 n0 n1 c).2.1,I Z (nd8 n0 n1 c).2.2],none)
  | none=>none) none
 | _,_=>none⟩
def wEnds:EntW:=⟨71,fun γ m az=>match az,m 2199023255552 with
 | [.pointer (some ⟨b,0,none⟩),I Z i',I Z c,I Z p],some (cs,_)=>cond (Nat.beq b 1099511627776) (match pDk cs with
  | some D=>some (some (i'=i∧γ.length=a.np),I Z (endK a.h (carAt D.sh c) p),some (endL a.h a.rc γ i' c (carAt D.sh c) p))
  | none=>none) none
 | _,_=>none⟩
def cDk:Cf:=⟨[wStarts a ps i d n0 n1,wLead ps i d n0 n1,wNeed1 ps i d n0 n1,wEnds a i],gIx i,true,[]⟩
end
theorem cDk_ok{w W0:World}{B gb g1 g2 n:Nat}{a:Gp}{ds:List Dk}{i:Nat}{hn:ds.length=a.n}{hi:i < ds.length}{l1:gb < n}{l2:g1 < n}{l3:g2 < n}{ps:List Pe}{d:Dk}{n0 n1:Int × Int × Int}
  (oh:a.h.Ok) (hld:a.n≤1048576) (hlp:a.np≤1048576) (hd:ds[i]? = some d) (hs:a.h.shaft d.sh=0) (hn0:need8 a.h ds ps a.rc i 0=n0) (hn1:need8 a.h ds ps a.rc i 1=n1) (NI0:NeedIn a.h n0) (NI1:NeedIn a.h n1) (hps:ps.length=a.np) :
  WOk Tryz.prog (gD w W0 B gb gb g1 g2 n a ds i hn hi l1 l2 l3) (cDk a ps i d n0 n1):=by
 have nd:∀ (D:Dk) (c:Int),D.sh=d.sh→(c=0 ∨ c=1)→need8 a.h (ds.set i D) ps a.rc i c=nd8 n0 n1 c:=fun D c e hc=>by
  rw [need8_set hd e i c]
  rcases hc with rfl | rfl
  ·exact hn0
  ·exact hn1
 have NI:∀ c:Int,NeedIn a.h (nd8 n0 n1 c):=fun c=>by unfold nd8;split;exact NI0;exact NI1
 have hsl:∀ D,(ds.set i D).length=a.n:=fun D=>List.length_set.trans hn
 have hli:(i:Int) < (a.n:Int):=by omega
 refine ⟨fun f e he=>?_,fun f e he=>?_,gIx_ok,fun f e h=>by cases h⟩
 ·obtain ⟨hm,rfl⟩:=lookW_mem he
  simp only [cDk,List.mem_cons,List.not_mem_nil,or_false] at hm
  refine ⟨rfl,?_⟩
  rcases hm with rfl | rfl | rfl | rfl
  ·rintro γ m az p v g hsp hp w1 hb1 ⟨D',hm,hl,hf,G⟩
   simp only [wStarts,hm 2199023255552 (by decide),gM_D] at hsp
   split at hsp
   ·rename_i b i' c q cs U hcs
    cases hcs
    cases hb:Nat.beq b 1099511627776 <;> rw [hb] at hsp <;> simp only [cond_false,cond_true,reduceCtorEq,pDk_c,Option.some.injEq,Prod.mk.injEq] at hsp
    obtain ⟨rfl,rfl,rfl⟩:=hsp
    obtain ⟨rfl,hc,hsh,rfl⟩:=hp _ rfl
    cases Nat.eq_of_beq_eq_true hb
    obtain ⟨x1,x2⟩:=car_bounds (s:=D'.sh) (by rw [hsh];exact hs) c
    refine (l8Starts_w oh hn hi hld hlp D' γ hl c q _ (nd D' c hsh hc) (NI c) x1 x2 w1 G).mono ?_
    rintro e' w' ⟨rfl,D2,hm2,hl2,hf2,G2⟩
    cases dk_inj ((hm2 2199023255552 (by decide)).symm.trans (gM_D a D'))
    exact ⟨rfl,⟨D',hm,hl2,hf.trans hf2 hb1,G2⟩,hf2.kept l1 l2 l3⟩
   ·cases hsp
  ·rintro γ m az p v g hsp hp w1 hb1 ⟨D',hm,hl,hf,G⟩
   simp only [wLead,hm 2199023255552 (by decide),gM_D] at hsp
   split at hsp
   ·rename_i b i' cs U hcs
    cases hcs
    cases hb:Nat.beq b 1099511627776 <;> rw [hb] at hsp <;> simp only [cond_false,cond_true,reduceCtorEq,pDk_c,Option.some.injEq,Prod.mk.injEq] at hsp
    obtain ⟨rfl,rfl,rfl⟩:=hsp
    obtain ⟨rfl,hsh,rfl⟩:=hp _ rfl
    cases Nat.eq_of_beq_eq_true hb
    refine (l8Lead_any gb a.h (ds.set i D') _ a.c a.nx γ _ a.c2 a.tk a.rc i oh (by omega) (by rw [hsl];exact hli) (by rw [hsl];exact hld) (by omega) n0 n1 (nd D' 0 hsh (.inl rfl)) (nd D' 1 hsh (.inr rfl)) w1 G.f G.din G.pin).mono ?_
    rintro e' w' ⟨rfl,hb⟩
    exact ⟨rfl,⟨D',hm,hl,hf.below (hb.mono hb1),G.below hb⟩,Kept.of_below hb⟩
   ·cases hsp
  ·rintro γ m az p v g hsp hp w1 hb1 ⟨D',hm,hl,hf,G⟩
   simp only [wNeed1,hm 2199023255552 (by decide),gM_D] at hsp
   split at hsp
   ·rename_i b i' c cs U hcs
    cases hcs
    cases hb:Nat.beq b 1099511627776 <;> rw [hb] at hsp <;> simp only [cond_false,cond_true,reduceCtorEq,pDk_c,Option.some.injEq,Prod.mk.injEq] at hsp
    obtain ⟨rfl,rfl,rfl⟩:=hsp
    obtain ⟨rfl,hc,hsh,rfl⟩:=hp _ rfl
    cases Nat.eq_of_beq_eq_true hb
    refine (l8Need_any gb a.h (ds.set i D') _ a.c a.nx γ _ a.c2 a.tk a.rc i c oh (by omega) (by rw [hsl];exact hli) (by rw [hsl];exact hld) (by omega) _ (nd D' c hsh hc) w1 G.f G.din G.pin).mono ?_
    rintro e' w' ⟨rfl,hb⟩
    exact ⟨rfl,⟨D',hm,hl,hf.below (hb.mono hb1),G.below hb⟩,Kept.of_below hb⟩
   ·cases hsp
  ·rintro γ m az p v g hsp hp w1 hb1 ⟨D',hm,hl,hf,G⟩
   simp only [wEnds,hm 2199023255552 (by decide),gM_D] at hsp
   split at hsp
   ·rename_i b i' c q cs U hcs
    cases hcs
    cases hb:Nat.beq b 1099511627776 <;> rw [hb] at hsp <;> simp only [cond_false,cond_true,reduceCtorEq,pDk_c,Option.some.injEq,Prod.mk.injEq] at hsp
    obtain ⟨rfl,rfl,rfl⟩:=hsp
    obtain ⟨rfl,hg⟩:=hp _ rfl
    cases Nat.eq_of_beq_eq_true hb
    refine (l8Ends_w oh hn hi hld hlp D' γ hl c q w1 G).mono ?_
    rintro e' w' ⟨rfl,D2,hm2,hl2,hf2,G2⟩
    cases dk_inj ((hm2 2199023255552 (by decide)).symm.trans (gM_D a D'))
    exact ⟨rfl,⟨D',hm,hl2,hf.trans hf2 hb1,G2⟩,hf2.kept l1 l2 l3⟩
   ·cases hsp
 ·obtain ⟨hm,_⟩:=lookW_mem he
  simp only [cDk,List.mem_cons,List.not_mem_nil,or_false] at hm
  intro γ m m' az h1
  have:=h1 2199023255552 (by decide)
  rcases hm with rfl | rfl | rfl | rfl <;> simp only [wStarts,wLead,wNeed1,wEnds,this]
def eSens:Ent Tryz.prog:=e2 kH kS 62 (fun h_ s_=>some (h_.Ok)) (fun h_ s_=>.agg #[I Z (((Hs.sensed h_ s_).l).lo),I Z (((Hs.sensed h_ s_).l).hi),I Z (((Hs.sensed h_ s_).u).lo),I Z (((Hs.sensed h_ s_).u).hi)]) fun h_ s_ p w=>l6Sensed_any h_ (p _ rfl) s_ w
def eGoals:Ent Tryz.prog:=e5 kH kS kI kI kI 66 (fun h_ s_ l_ g_ o_=>some (h_.Ok∧-100≤g_∧g_≤100)) (fun h_ s_ l_ g_ o_=>.agg #[I Z 0,I Z ((Hs.goals h_ s_ l_ g_ o_).1),I Z ((Hs.goals h_ s_ l_ g_ o_).2)]) fun h_ s_ l_ g_ o_ p w=>have ⟨h1,h2,h3⟩:=p _ rfl;l6Goals_any h_ h1 s_ l_ g_ o_ h2 h3 w
def eExt:Ent Tryz.prog:=e3 kN kI kI 67 (fun x_ a_ b_=>some ((-1000≤x_.l.hi∧x_.l.hi≤1000)∧(-1000≤x_.u.lo∧x_.u.lo≤1000)∧-1000≤a_∧a_≤1000)) (fun x_ a_ b_=>.agg #[I Z (((extS x_ a_ b_).l).lo),I Z (((extS x_ a_ b_).l).hi),I Z (((extS x_ a_ b_).u).lo),I Z (((extS x_ a_ b_).u).hi)]) fun x_ a_ b_ p w=>have ⟨h1,h2,h3⟩:=p _ rfl;l6Extend_any x_ a_ b_ h1.1 h1.2 h2.1 h2.2 h3.1 h3.2 _ rfl w
def eCmd8:Ent Tryz.prog:=e5 kH kC kI kB kI 68 (fun h_ c_ p_ s_ a_=>some (h_.Ok∧(-1≤a_∧a_≤12)∧(-100000000≤c_.pos∧c_.pos≤100000000)∧-500≤c_.vel∧c_.vel≤500)) (fun h_ c_ p_ s_ a_=>.agg #[I Z ((cmdP h_ c_ p_ s_ a_).push),.bool ((cmdP h_ c_ p_ s_ a_).brk),.bool ((cmdP h_ c_ p_ s_ a_).opn)]) fun h_ c_ p_ s_ a_ p w=>have ⟨h1,h2,h3,h4⟩:=p _ rfl;l8Command_any h_ h1 c_ p_ s_ a_ h2.1 h2.2 h3.1 h3.2 h4.1 h4.2 _ rfl w
def eAim:Ent Tryz.prog:=e2 kM kI 69 (fun x_ g_=>none) (fun x_ g_=>I Z (aimS x_ g_)) fun x_ g_ p w=>specAimOf_any x_ g_ w
def eStep5:Ent Tryz.prog:=e6 kH kS kX kX kI kI 70 (fun h_ s_ a_ b_ d_ e_=>some (Hs.pairK h_ s_ a_ b_=0∧(-h_.dr≤d_∧d_≤h_.dr)∧-h_.dr≤e_∧e_≤h_.dr)) (fun h_ s_ a_ b_ d_ e_=>.agg #[I Z (((Hs.stepS h_ s_ a_ b_ d_ e_).lo).pos),I Z (((Hs.stepS h_ s_ a_ b_ d_ e_).lo).vel),I Z (((Hs.stepS h_ s_ a_ b_ d_ e_).lo).door),I Z (((Hs.stepS h_ s_ a_ b_ d_ e_).up).pos),I Z (((Hs.stepS h_ s_ a_ b_ d_ e_).up).vel),I Z (((Hs.stepS h_ s_ a_ b_ d_ e_).up).door)]) fun h_ s_ a_ b_ d_ e_ p w=>have ⟨h1,h2,h3⟩:=p _ rfl;l5Step_any h_ s_ a_ b_ d_ e_ h1 h2.1 h2.2 h3.1 h3.2 _ rfl w
def eRel:Ent Tryz.prog:=e3 kH kN kS 72 (fun h_ x_ s_=>some (CarOk h_ s_.lo∧CarOk h_ s_.up)) (fun h_ x_ s_=>.agg #[I Z (((Hs.relS h_ x_ s_).l).lo),I Z (((Hs.relS h_ x_ s_).l).hi),I Z (((Hs.relS h_ x_ s_).u).lo),I Z (((Hs.relS h_ x_ s_).u).hi)]) fun h_ x_ s_ p w=>l6Release_any h_ x_ s_ (p _ rfl).1 (p _ rfl).2 _ rfl w
theorem l8Deck_w{w:World}{B gb g1 g2:Nat}{a:Gp}{ds:List Dk}{i:Nat}(hn:ds.length=a.n)(hld:a.n≤1048576)(d:Dk)(hd:ds[i]? = some d)(hk:DkOk a.h d)(ps:List Pe)(hL:LdOk a.h ⟨a.nx,ps⟩)(hl:ps.length=a.np)(hi3:i≤2)
  (dl du:Int) (d1:-a.h.dr≤dl) (d2:dl≤a.h.dr) (e1:-a.h.dr≤du) (e2:du≤a.h.dr) (m:Dk) (hm:mid8 a.h (freeD a.h d) (need8 a.h ds ps a.rc i 0) (need8 a.h ds ps a.rc i 1) dl du=m) (W:World) (G:Gs W w B gb g1 a.c g2 a.c2 a.h ds a.nx ps a.tk a.rc) :
  Calls Tryz.prog 39 #[.pointer (some ⟨gb,0,none⟩),I Z (i:Int),I Z dl,I Z du] W fun e w'=>e=.returned (.tuple #[])∧GJ w W W.heap.size B gb gb g1 g2 a ds i (ppl8 a.h a.rc ps i m) (gM a (end8 a.h m)) w':=by
 have oh:a.h.Ok:=Hs.ok_of (Hs.fault_zero hL.hf).1
 have hi:i < ds.length:=(List.getElem?_eq_some_iff.1 hd).1
 have hlp:a.np≤1048576:=by have:=hL.len;dsimp only at this;omega
 obtain ⟨n0,hn0⟩:∃ n,need8 a.h ds ps a.rc i 0=n:=⟨_,rfl⟩
 obtain ⟨n1,hn1⟩:∃ n,need8 a.h ds ps a.rc i 1=n:=⟨_,rfl⟩
 have NI0:NeedIn a.h n0:=hn0 ▸ need8_in hL a.rc i 0
 have NI1:NeedIn a.h n1:=hn1 ▸ need8_in hL a.rc i 1
 rw [hn0,hn1] at hm
 have hC:=cDk_ok (w:=w) (W0:=W) (B:=B) (n:=W.heap.size) (hn:=hn) (hi:=hi) (l1:=G.f.lt) (l2:=G.d.bl.2) (l3:=G.p.bl.2) oh hld hlp hd hk.s hn0 hn1 NI0 NI1 hl
 refine (runs_ok (L:=[eSens,eGoals,eExt,eAim,eCmd8,eStep5,eRel]) (C:=cDk a ps i d n0 n1) mo hC Tryz.func39 (args:=[.pointer (some ⟨1099511627776,0,none⟩),I Z (i:Int),I Z dl,I Z du]) (m:=gM a d) (g:=ps) (Post:=(fun vs s=>PD vs s.g (s.m 2199023255552) [] (ppl8 a.h a.rc ps i m) (end8 a.h m))) (T:=((i:Int)=(i:Int)∧i < a.n)∧jn (fun (J1:Bool→Prop)=>cond d.hd (cond (d.sh.lo.vel == 0) ((J1 (d.sh.up.vel == 0))) ((J1 false))) ((J1 false))) (fun (y1_0:Bool)=>jn (fun (J2:Int→Int→Int→Int→Bool→Prop)=>cond y1_0 ((a.h.Ok)∧(∀ x1:Int,x1=((Hs.sensed a.h d.sh).l).lo→∀ x2:Int,x2=((Hs.sensed a.h d.sh).l).hi→∀ x3:Int,x3=((Hs.sensed a.h d.sh).u).lo→∀ x4:Int,x4=((Hs.sensed a.h d.sh).u).hi→(J2 x1 x2 x3 x4 false))) ((J2 d.sp.l.lo d.sp.l.hi d.sp.u.lo d.sp.u.hi d.hd))) (fun (y2_0:Int) (y2_1:Int) (y2_2:Int) (y2_3:Int) (y2_4:Bool)=>((i:Int)=i∧((0:Int)=0 ∨ (0:Int)=1)∧(⟨d.sh,(⟨(⟨y2_0,y2_1⟩:Sp),(⟨y2_2,y2_3⟩:Sp)⟩:Ss),d.pl,d.pu,y2_4⟩:Dk).sh=d.sh∧ps=ps)∧(∀ x5:Int,x5=(startP a.h (⟨d.sh,(⟨(⟨y2_0,y2_1⟩:Sp),(⟨y2_2,y2_3⟩:Sp)⟩:Ss),d.pl,d.pu,y2_4⟩:Dk).hd (nd8 n0 n1 (0:Int)) (carAt (⟨d.sh,(⟨(⟨y2_0,y2_1⟩:Sp),(⟨y2_2,y2_3⟩:Sp)⟩:Ss),d.pl,d.pu,y2_4⟩:Dk).sh (0:Int)) d.pl)→((i:Int)=i∧((1:Int)=0 ∨ (1:Int)=1)∧(⟨d.sh,(⟨(⟨y2_0,y2_1⟩:Sp),(⟨y2_2,y2_3⟩:Sp)⟩:Ss),x5,d.pu,y2_4⟩:Dk).sh=d.sh∧ps=ps)∧(∀ x6:Int,x6=(startP a.h (⟨d.sh,(⟨(⟨y2_0,y2_1⟩:Sp),(⟨y2_2,y2_3⟩:Sp)⟩:Ss),x5,d.pu,y2_4⟩:Dk).hd (nd8 n0 n1 (1:Int)) (carAt (⟨d.sh,(⟨(⟨y2_0,y2_1⟩:Sp),(⟨y2_2,y2_3⟩:Sp)⟩:Ss),x5,d.pu,y2_4⟩:Dk).sh (1:Int)) d.pu)→((i:Int)=i∧(⟨d.sh,(⟨(⟨y2_0,y2_1⟩:Sp),(⟨y2_2,y2_3⟩:Sp)⟩:Ss),x5,x6,y2_4⟩:Dk).sh=d.sh∧ps=ps)∧(∀ x7:Int,x7=(lead8 n0 n1)→jn (fun (J3:Bool→Prop)=>cond (!y2_4) ((J3 (decide (x7 < 0)))) ((J3 true))) (fun (y3_0:Bool)=>jn (fun (J5:Int→Int→Int→Int→Int→Int→Int→Prop)=>cond (!y3_0) (((i:Int)=i∧((IntKind.i64.wrap (1 - x7))=0 ∨ (IntKind.i64.wrap (1 - x7))=1)∧(⟨d.sh,(⟨(⟨y2_0,y2_1⟩:Sp),(⟨y2_2,y2_3⟩:Sp)⟩:Ss),x5,x6,y2_4⟩:Dk).sh=d.sh∧ps=ps)∧(∀ x8:Int,x8=((nd8 n0 n1 (IntKind.i64.wrap (1 - x7))).1)→∀ x9:Int,x9=((nd8 n0 n1 (IntKind.i64.wrap (1 - x7))).2.1)→∀ x10:Int,x10=((nd8 n0 n1 (IntKind.i64.wrap (1 - x7))).2.2)→jn (fun (J4:Int→Prop)=>cond (x8 == 0) ((J4 x10)) ((J4 (-2)))) (fun (y4_0:Int)=>((i:Int)=i∧(x7=0 ∨ x7=1)∧(⟨d.sh,(⟨(⟨y2_0,y2_1⟩:Sp),(⟨y2_2,y2_3⟩:Sp)⟩:Ss),x5,x6,y2_4⟩:Dk).sh=d.sh∧ps=ps)∧(∀ x11:Int,x11=((nd8 n0 n1 x7).1)→∀ x12:Int,x12=((nd8 n0 n1 x7).2.1)→∀ x13:Int,x13=((nd8 n0 n1 x7).2.2)→(a.h.Ok∧-100≤x13∧x13≤100)∧(∀ x14:Int,x14=0→∀ x15:Int,x15=((Hs.goals a.h d.sh x7 x13 y4_0).1)→∀ x16:Int,x16=((Hs.goals a.h d.sh x7 x13 y4_0).2)→((-1000≤(⟨(⟨y2_0,y2_1⟩:Sp),(⟨y2_2,y2_3⟩:Sp)⟩:Ss).l.hi∧(⟨(⟨y2_0,y2_1⟩:Sp),(⟨y2_2,y2_3⟩:Sp)⟩:Ss).l.hi≤1000)∧(-1000≤(⟨(⟨y2_0,y2_1⟩:Sp),(⟨y2_2,y2_3⟩:Sp)⟩:Ss).u.lo∧(⟨(⟨y2_0,y2_1⟩:Sp),(⟨y2_2,y2_3⟩:Sp)⟩:Ss).u.lo≤1000)∧-1000≤x15∧x15≤1000)∧(∀ x17:Int,x17=((extS (⟨(⟨y2_0,y2_1⟩:Sp),(⟨y2_2,y2_3⟩:Sp)⟩:Ss) x15 x16).l).lo→∀ x18:Int,x18=((extS (⟨(⟨y2_0,y2_1⟩:Sp),(⟨y2_2,y2_3⟩:Sp)⟩:Ss) x15 x16).l).hi→∀ x19:Int,x19=((extS (⟨(⟨y2_0,y2_1⟩:Sp),(⟨y2_2,y2_3⟩:Sp)⟩:Ss) x15 x16).u).lo→∀ x20:Int,x20=((extS (⟨(⟨y2_0,y2_1⟩:Sp),(⟨y2_2,y2_3⟩:Sp)⟩:Ss) x15 x16).u).hi→(J5 x17 x18 x19 x20 x14 x15 x16))))))) ((J5 y2_0 y2_1 y2_2 y2_3 0 0 0))) (fun (y5_0:Int) (y5_1:Int) (y5_2:Int) (y5_3:Int) (y5_4:Int) (y5_5:Int) (y5_6:Int)=>∀ x21:Int,x21=(aimS (⟨y5_0,y5_1⟩:Sp) y5_5)→(a.h.Ok∧(-1≤x21∧x21≤12)∧(-100000000≤d.sh.lo.pos∧d.sh.lo.pos≤100000000)∧-500≤d.sh.lo.vel∧d.sh.lo.vel≤500)∧(∀ x22:Int,x22=(cmdP a.h d.sh.lo x5 y3_0 x21).push→∀ x23:Bool,x23=(cmdP a.h d.sh.lo x5 y3_0 x21).brk→∀ x24:Bool,x24=(cmdP a.h d.sh.lo x5 y3_0 x21).opn→∀ x25:Int,x25=(aimS (⟨y5_2,y5_3⟩:Sp) y5_6)→(a.h.Ok∧(-1≤x25∧x25≤12)∧(-100000000≤d.sh.up.pos∧d.sh.up.pos≤100000000)∧-500≤d.sh.up.vel∧d.sh.up.vel≤500)∧(∀ x26:Int,x26=(cmdP a.h d.sh.up x6 y3_0 x25).push→∀ x27:Bool,x27=(cmdP a.h d.sh.up x6 y3_0 x25).brk→∀ x28:Bool,x28=(cmdP a.h d.sh.up x6 y3_0 x25).opn→(Hs.pairK a.h d.sh (⟨x22,x23,x24⟩:Cm) (⟨x26,x27,x28⟩:Cm)=0∧(-a.h.dr≤dl∧dl≤a.h.dr)∧-a.h.dr≤du∧du≤a.h.dr)∧(∀ x29:Int,x29=((Hs.stepS a.h d.sh (⟨x22,x23,x24⟩:Cm) (⟨x26,x27,x28⟩:Cm) dl du).lo).pos→∀ x30:Int,x30=((Hs.stepS a.h d.sh (⟨x22,x23,x24⟩:Cm) (⟨x26,x27,x28⟩:Cm) dl du).lo).vel→∀ x31:Int,x31=((Hs.stepS a.h d.sh (⟨x22,x23,x24⟩:Cm) (⟨x26,x27,x28⟩:Cm) dl du).lo).door→∀ x32:Int,x32=((Hs.stepS a.h d.sh (⟨x22,x23,x24⟩:Cm) (⟨x26,x27,x28⟩:Cm) dl du).up).pos→∀ x33:Int,x33=((Hs.stepS a.h d.sh (⟨x22,x23,x24⟩:Cm) (⟨x26,x27,x28⟩:Cm) dl du).up).vel→∀ x34:Int,x34=((Hs.stepS a.h d.sh (⟨x22,x23,x24⟩:Cm) (⟨x26,x27,x28⟩:Cm) dl du).up).door→((i:Int)=i∧ps.length=a.np)∧(∀ x35:Int,x35=(endK a.h (carAt (⟨(⟨(⟨x29,x30,x31⟩:Cs),(⟨x32,x33,x34⟩:Cs)⟩:Sh),(⟨(⟨y5_0,y5_1⟩:Sp),(⟨y5_2,y5_3⟩:Sp)⟩:Ss),x5,x6,y2_4⟩:Dk).sh (0:Int)) x5)→((i:Int)=i∧(endL a.h a.rc ps (i:Int) (0:Int) (carAt (⟨(⟨(⟨x29,x30,x31⟩:Cs),(⟨x32,x33,x34⟩:Cs)⟩:Sh),(⟨(⟨y5_0,y5_1⟩:Sp),(⟨y5_2,y5_3⟩:Sp)⟩:Ss),x5,x6,y2_4⟩:Dk).sh (0:Int)) x5).length=a.np)∧(∀ x36:Int,x36=(endK a.h (carAt (⟨(⟨(⟨x29,x30,x31⟩:Cs),(⟨x32,x33,x34⟩:Cs)⟩:Sh),(⟨(⟨y5_0,y5_1⟩:Sp),(⟨y5_2,y5_3⟩:Sp)⟩:Ss),x35,x6,y2_4⟩:Dk).sh (1:Int)) x6)→jn (fun (J6:Int→Int→Int→Int→Prop)=>cond (!y2_4) ((CarOk a.h (⟨(⟨x29,x30,x31⟩:Cs),(⟨x32,x33,x34⟩:Cs)⟩:Sh).lo∧CarOk a.h (⟨(⟨x29,x30,x31⟩:Cs),(⟨x32,x33,x34⟩:Cs)⟩:Sh).up)∧(∀ x37:Int,x37=((Hs.relS a.h (⟨(⟨y5_0,y5_1⟩:Sp),(⟨y5_2,y5_3⟩:Sp)⟩:Ss) (⟨(⟨x29,x30,x31⟩:Cs),(⟨x32,x33,x34⟩:Cs)⟩:Sh)).l).lo→∀ x38:Int,x38=((Hs.relS a.h (⟨(⟨y5_0,y5_1⟩:Sp),(⟨y5_2,y5_3⟩:Sp)⟩:Ss) (⟨(⟨x29,x30,x31⟩:Cs),(⟨x32,x33,x34⟩:Cs)⟩:Sh)).l).hi→∀ x39:Int,x39=((Hs.relS a.h (⟨(⟨y5_0,y5_1⟩:Sp),(⟨y5_2,y5_3⟩:Sp)⟩:Ss) (⟨(⟨x29,x30,x31⟩:Cs),(⟨x32,x33,x34⟩:Cs)⟩:Sh)).u).lo→∀ x40:Int,x40=((Hs.relS a.h (⟨(⟨y5_0,y5_1⟩:Sp),(⟨y5_2,y5_3⟩:Sp)⟩:Ss) (⟨(⟨x29,x30,x31⟩:Cs),(⟨x32,x33,x34⟩:Cs)⟩:Sh)).u).hi→(J6 x37 x38 x39 x40))) ((J6 y5_0 y5_1 y5_2 y5_3))) (fun (y6_0:Int) (y6_1:Int) (y6_2:Int) (y6_3:Int)=>PD [] (endL a.h a.rc (endL a.h a.rc ps (i:Int) (0:Int) (carAt (⟨(⟨(⟨x29,x30,x31⟩:Cs),(⟨x32,x33,x34⟩:Cs)⟩:Sh),(⟨(⟨y5_0,y5_1⟩:Sp),(⟨y5_2,y5_3⟩:Sp)⟩:Ss),x5,x6,y2_4⟩:Dk).sh (0:Int)) x5) (i:Int) (1:Int) (carAt (⟨(⟨(⟨x29,x30,x31⟩:Cs),(⟨x32,x33,x34⟩:Cs)⟩:Sh),(⟨(⟨y5_0,y5_1⟩:Sp),(⟨y5_2,y5_3⟩:Sp)⟩:Ss),x35,x6,y2_4⟩:Dk).sh (1:Int)) x6) (some (cellsD (⟨(⟨(⟨x29,x30,x31⟩:Cs),(⟨x32,x33,x34⟩:Cs)⟩:Sh),(⟨(⟨y6_0,y6_1⟩:Sp),(⟨y6_2,y6_3⟩:Sp)⟩:Ss),x35,x36,y2_4⟩:Dk),0)) [] (ppl8 a.h a.rc ps i m) (end8 a.h m))))))))))))))) (by kernel_rfl) ?_ W (Nat.le_refl _) (gM_own _ _) ⟨d,fun q _=>rfl,hl,Fr.refl _ _ _ _ _,G.own hd⟩).mono ?_
 ·refine ⟨⟨rfl,by omega⟩,?_⟩
  refine jn_of (fun J=>J (d.hd && ((d.sh.lo.vel == 0) && (d.sh.up.vel == 0)))) ?_ (fun J hJ=>?_)
  case refine_2=>cases e1:d.hd <;> cases e2:(d.sh.lo.vel == 0) <;> cases e3:(d.sh.up.vel == 0) <;> simpa [e1,e2,e3] using hJ
  refine jn_of (fun J=>∀ a' b c e f,(⟨d.sh,⟨⟨a',b⟩,⟨c,e⟩⟩,d.pl,d.pu,f⟩:Dk)=freeD a.h d→J a' b c e f) ?_ (fun J hJ=>?_)
  case refine_2=>
   refine if_b (fun q=>⟨oh,?_⟩) (fun q=>?_)
   ·rintro x1 rfl x2 rfl x3 rfl x4 rfl
    refine hJ _ _ _ _ _ ?_
    simp only [Bool.and_eq_true,beq_iff_eq] at q
    unfold freeD;rw [if_pos q]
   ·refine hJ _ _ _ _ _ ?_
    simp only [Bool.and_eq_false_imp,beq_iff_eq] at q
    unfold freeD;rw [if_neg (fun ⟨q1,q2,q3⟩=>by simpa [q3] using q q1 q2)]
  intro s1 s2 s3 s4 f hD
  have K:=free_ok hk
  rw [← hD] at K hm
  have KL:=Hs.car_zero (shaft_parts hk.s).1;have KU:=Hs.car_zero (shaft_parts hk.s).2.1
  have A:=oh.all;have AL:=KL.all;have AU:=KU.all
  have hf0:=KL.hf
  have KS:=K.p
  have b1:=KS.a1;have b2:=KS.a2;have b3:=KS.a3;have b4:=KS.a4;have b5:=KS.a5
  refine ⟨⟨rfl,.inl rfl,rfl,rfl⟩,fun x5 h5=>⟨⟨rfl,.inr rfl,rfl,rfl⟩,fun x6 h6=>⟨⟨rfl,rfl,rfl⟩,fun x7 h7=>?_⟩⟩⟩
  refine jn_of (fun J=>J (f || decide (x7 < 0))) ?_ (fun J hJ=>?_)
  case refine_2=>cases f <;> simpa using hJ
  obtain ⟨st,hst⟩:∃ st,(f || decide (x7 < 0))=st:=⟨_,rfl⟩
  rw [hst]
  have e8:still8 (⟨d.sh,⟨⟨s1,s2⟩,⟨s3,s4⟩⟩,d.pl,d.pu,f⟩:Dk) n0 n1=st:=by unfold still8;rw [← h7];exact hst
  refine jn_of (fun J=>∀ b1 b2 b3 b4 k g1 g2,(⟨⟨b1,b2⟩,⟨b3,b4⟩⟩:Ss)=spn8 a.h (⟨d.sh,⟨⟨s1,s2⟩,⟨s3,s4⟩⟩,d.pl,d.pu,f⟩:Dk) n0 n1→(g1,g2)=gol8 a.h (⟨d.sh,⟨⟨s1,s2⟩,⟨s3,s4⟩⟩,d.pl,d.pu,f⟩:Dk) n0 n1→J b1 b2 b3 b4 k g1 g2) ?_ (fun J hJ=>?_)
  case refine_2=>
   refine if_b (fun q=>?_) (fun q=>?_)
   ·have q':st=false:=by simpa using q
    subst q'
    simp only [Bool.or_eq_false_iff,decide_eq_false_iff_not] at hst
    have hlead:¬ lead8 n0 n1 < 0:=by rw [← h7];exact hst.2
    have hx7:x7=0 ∨ x7=1:=by rcases lead_cases n0 n1 with e | ⟨e,_⟩ | ⟨e,_⟩ <;> omega
    have w1:IntKind.i64.wrap (1 - x7)=1 - x7:=w64 (by omega) (by omega)
    rw [w1]
    refine ⟨⟨rfl,by omega,rfl,rfl⟩,fun x8 h8 x9 h9 x10 h10=>?_⟩
    refine jn_of (fun J=>J (if x8=0 then x10 else -2)) ?_ (fun J hJ4=>?_)
    case refine_2=>refine if_b (fun e=>?_) (fun e=>?_) <;> simp at e <;> simpa [e] using hJ4
    have hno:(nd8 n0 n1 x7).1=0:=by
     rcases lead_cases n0 n1 with e | ⟨e,z⟩ | ⟨e,z⟩
     ·omega
     ·rw [h7,e];exact z
     ·rw [h7,e];exact z
    have hnb:0≤(nd8 n0 n1 x7).2.2∧(nd8 n0 n1 x7).2.2≤a.h.fl - 1:=by
     unfold nd8 at hno ⊢
     split
     ·exact NI0 (by rwa [if_pos (by assumption)] at hno)
     ·exact NI1 (by rwa [if_neg (by assumption)] at hno)
    refine ⟨⟨rfl,hx7,rfl,rfl⟩,fun x11 h11 x12 h12 x13 h13=>?_⟩
    rw [← h13] at hnb
    refine ⟨⟨oh,by omega,by omega⟩,fun x14 h14 x15 h15 x16 h16=>?_⟩
    have hg:(x15,x16)=goal8 a.h d.sh n0 n1:=by
     rw [h15,h16,h13,h10,h8]
     unfold goal8
     rw [← h7]
     rcases hx7 with e | e <;> rw [e] <;> rfl
    have go:=goal8_ok hf0 (s:=d.sh) NI0 NI1 hlead
    rw [← hg] at go
    refine ⟨⟨by dsimp only at *;omega,by dsimp only at *;omega,by dsimp only at *;omega⟩,fun x17 h17 x18 h18 x19 h19 x20 h20=>?_⟩
    refine hJ _ _ _ _ _ _ _ ?_ ?_
    ·unfold spn8;rw [e8,if_neg (by simp),← hg,h17,h18,h19,h20]
    ·unfold gol8;rw [e8,if_neg (by simp)];exact hg
   ·have q':st=true:=by simpa using q
    refine hJ _ _ _ _ _ _ _ ?_ ?_
    ·unfold spn8;rw [e8,if_pos q']
    ·unfold gol8;rw [e8,if_pos q']
  intro b1 b2 b3 b4 k g1 g2 hs hg x21 h21
  have S:=spn8_ok K NI0 NI1
  rw [← hs] at S
  have c1:=S.a1;have c2:=S.a2;have c3:=S.a3;have c4:=S.a4;have c5:=S.a5
  have aL:=aim_in (x:=⟨b1,b2⟩) g1 c2
  have aU:=aim_in (x:=⟨b3,b4⟩) g2 c4
  rw [← h21] at aL
  dsimp only at c1 c2 c3 c4 c5 aL aU
  refine ⟨⟨oh,by omega,by omega,by omega⟩,fun x22 h22 x23 h23 x24 h24 x25 h25=>?_⟩
  rw [← h25] at aU
  refine ⟨⟨oh,by omega,by omega,by omega⟩,fun x26 h26 x27 h27 x28 h28=>?_⟩
  have ea:(⟨x22,x23,x24⟩:Cm)=cmdP a.h d.sh.lo x5 st x21:=by rw [h22,h23,h24]
  have eb:(⟨x26,x27,x28⟩:Cm)=cmdP a.h d.sh.up x6 st x25:=by rw [h26,h27,h28]
  rw [ea,eb]
  have hp:Hs.pairK a.h d.sh (cmdP a.h d.sh.lo x5 st x21) (cmdP a.h d.sh.up x6 st x25)=0:=by
   unfold Hs.pairK;rw [if_pos hk.s,if_pos (cmdP_ok hf0 _ _ _ _)];exact cmdP_ok hf0 _ _ _ _
  have em:m=⟨Hs.stepS a.h d.sh (cmdP a.h d.sh.lo x5 st x21) (cmdP a.h d.sh.up x6 st x25) dl du,⟨⟨b1,b2⟩,⟨b3,b4⟩⟩,x5,x6,f⟩:=by
   rw [← hm]
   unfold mid8
   dsimp only
   rw [e8,← hs,← hg,h25,h21,h6,h5]
   rfl
  have ks:=(mid_ok K NI0 NI1 d1 d2 e1 e2).s
  rw [hm,em] at ks
  refine ⟨⟨hp,⟨d1,d2⟩,e1,e2⟩,fun x29 h29 x30 h30 x31 h31 x32 h32 x33 h33 x34 h34=>?_⟩
  have et:(⟨⟨x29,x30,x31⟩,⟨x32,x33,x34⟩⟩:Sh)=Hs.stepS a.h d.sh (cmdP a.h d.sh.lo x5 st x21) (cmdP a.h d.sh.up x6 st x25) dl du:=by rw [h29,h30,h31,h32,h33,h34]
  rw [← et] at em ks
  refine ⟨⟨rfl,hl⟩,fun x35 h35=>⟨⟨rfl,by rw [endL_len];exact hl⟩,fun x36 h36=>?_⟩⟩
  refine jn_of (fun J=>∀ c1 c2 c3 c4,(⟨⟨c1,c2⟩,⟨c3,c4⟩⟩:Ss)=(if f=true then ⟨⟨b1,b2⟩,⟨b3,b4⟩⟩ else Hs.relS a.h ⟨⟨b1,b2⟩,⟨b3,b4⟩⟩ ⟨⟨x29,x30,x31⟩,⟨x32,x33,x34⟩⟩)→J c1 c2 c3 c4) ?_ (fun J hJ=>?_)
  case refine_2=>
   refine if_b (fun q=>?_) (fun q=>?_)
   ·have q':f=false:=by simpa using q
    refine ⟨⟨Hs.car_zero (shaft_parts ks).1,Hs.car_zero (shaft_parts ks).2.1⟩,fun x37 h37 x38 h38 x39 h39 x40 h40=>hJ _ _ _ _ ?_⟩
    rw [q',if_neg (by simp),h37,h38,h39,h40]
   ·have q':f=true:=by simpa using q
    exact hJ _ _ _ _ (by rw [if_pos q'])
  intro c1 c2 c3 c4 hc
  refine ⟨rfl,?_,?_⟩
  ·rw [em];rfl
  ·refine congrArg (fun D=>some (cellsD D,0)) ?_
   rw [em]
   unfold end8
   dsimp only
   rw [← hc,h35,h36]
   rfl
 ·rintro e w' ⟨vs,s,rfl,⟨rfl,hg,hr⟩,⟨D,hm',hl',hf,G'⟩,_⟩
  rw [hm' 2199023255552 (by decide),gM_D] at hr
  cases dk_inj hr
  rw [hg] at G' hl'
  exact ⟨rfl,_,fun q _=>rfl,hl',hf,G'⟩
end Go.Proofs.YteimojoicfjdjaaGreat
namespace Go.Proofs.YteimojoicfjdjaaGreat
set_option maxRecDepth 20000
set_option maxHeartbeats 16000000
open Go.RowKit Pl Sx
set_option linter.unusedVariables false
set_option linter.unusedSimpArgs false
def tk8(h:Hs)(rc:Bool)(dl du:Int)(s:List Dk × List Pe):Nat→List Dk × List Pe
 | 0=>s
 | k + 1=>match (tk8 h rc dl du s k).1[k]? with
  | some d=>((tk8 h rc dl du s k).1.set k (end8 h (mid8 h (freeD h d) (need8 h (tk8 h rc dl du s k).1 (tk8 h rc dl du s k).2 rc k 0) (need8 h (tk8 h rc dl du s k).1 (tk8 h rc dl du s k).2 rc k 1) dl du)),
    ppl8 h rc (tk8 h rc dl du s k).2 k (mid8 h (freeD h d) (need8 h (tk8 h rc dl du s k).1 (tk8 h rc dl du s k).2 rc k 0) (need8 h (tk8 h rc dl du s k).1 (tk8 h rc dl du s k).2 rc k 1) dl du))
  | none=>tk8 h rc dl du s k
structure TkOk(a:Gp)(s:List Dk × List Pe):Prop where
 ld:s.1.length=a.n
 lp:s.2.length=a.np
 led:LdOk a.h ⟨a.nx,s.2⟩
 dk:∀ (i:Nat) d,s.1[i]? = some d→DkOk a.h d
theorem tk8_ok{a:Gp}{dl du:Int}(h3:a.n≤3)(d1:-a.h.dr≤dl)(d2:dl≤a.h.dr)(e1:-a.h.dr≤du)(e2:du≤a.h.dr){s:List Dk × List Pe}(ok:TkOk a s):∀ k,k≤a.n→TkOk a (tk8 a.h a.rc dl du s k)
 | 0,_=>ok
 | k + 1,hk=>by
  have ih:=tk8_ok h3 d1 d2 e1 e2 ok k (by omega)
  unfold tk8
  generalize tk8 a.h a.rc dl du s k=q at ih
  obtain ⟨d,hd⟩:∃ d,q.1[k]? = some d:=⟨_,List.getElem?_eq_getElem (by rw [ih.ld];omega)⟩
  rw [hd]
  dsimp only
  have K:=ih.dk k d hd
  have M:=mid_ok (free_ok K) (need8_in (ds:=q.1) ih.led a.rc (k:Int) 0) (need8_in (ds:=q.1) ih.led a.rc (k:Int) 1) d1 d2 e1 e2
  refine ⟨by rw [List.length_set];exact ih.ld,by rw [ppl_len];exact ih.lp,ppl_ok ih.led _ _ (by omega) (by omega) _,fun i d' hd'=>?_⟩
  rw [List.getElem?_set] at hd'
  split at hd'
  ·split at hd'
   ·simp only [Option.some.injEq] at hd';subst hd';exact end_ok M
   ·cases hd'
  ·exact ih.dk i d' hd'
theorem GJ.gs{w W0:World}{n B gb g1 g2:Nat}{a:Gp}{ds:List Dk}{i:Nat}{γ:List Pe}{d:Dk}{w':World}(h:GJ w W0 n B gb gb g1 g2 a ds i γ (gM a d) w'):Gs w' w B gb g1 a.c g2 a.c2 a.h (ds.set i d) a.nx γ a.tk a.rc:=by
 obtain ⟨D,hm,_,_,G⟩:=h
 cases dk_inj (D:=d) (d:=D) (hm 2199023255552 (by decide))
 exact G
theorem Gs.tick{W w:World}{B gb g1 c1 g2 c2:Nat}{h:Hs}{ds:List Dk}{nx:Int}{ps:List Pe}{tk:Int}{rc:Bool}(G:Gs W w B gb g1 c1 g2 c2 h ds nx ps tk rc)(t:Int):Gs (W.setCell ⟨gb,15,none⟩ (.int .i64 t)) w B gb g1 c1 g2 c2 h ds nx ps t rc:=
 ⟨G.f.set (k:=15) (.int .i64 t) (by simp),G.d.other (p:=⟨gb,15,none⟩) (fun e=>G.n1 e.symm) _,G.p.other (p:=⟨gb,15,none⟩) (fun e=>G.n2 e.symm) _,G.n1,G.n2,G.n12,G.lo,G.fb.setCell (p:=⟨gb,15,none⟩) G.lo _⟩
theorem l8Tick_w{w:World}{B gb g1 g2:Nat}{a:Gp}{ds:List Dk}{ps:List Pe}(h3:a.n≤3)(hnp:a.np≤1048576)(ok:TkOk a (ds,ps))(dl du:Int)(d1:-a.h.dr≤dl)(d2:dl≤a.h.dr)(e1:-a.h.dr≤du)(e2:du≤a.h.dr)(t1:0≤a.tk)(t2:a.tk≤1000000000000000)(W:World)(hG:Gs W w B gb g1 a.c g2 a.c2 a.h ds a.nx ps a.tk a.rc) :
  Calls Tryz.prog 18 #[.pointer (some ⟨gb,0,none⟩),.int .i64 dl,.int .i64 du] W fun e w'=>e=.returned (.tuple #[])∧Gs w' w B gb g1 a.c g2 a.c2 a.h (tk8 a.h a.rc dl du (ds,ps) a.n).1 a.nx (tk8 a.h a.rc dl du (ds,ps) a.n).2 (a.tk + 1) a.rc:=by
 have G:=zH hG
 have OK:=zH ok
 have hl:ds.length=a.n:=ok.ld
 clear hG ok
 have m15:=G.out.f.c 15 _ rfl
 have z15:=G.out.f.f 15 (by simp)
 have w1:IntKind.i64.wrap (a.tk + 1)=a.tk + 1:=IntWalk.i64_in _ (by omega)
 go_enter Tryz.func18,Tryz.ntmps18
 go_upto_region 1 with fail
 obtain ⟨W1,hW1⟩:∃ X,X=W.setCell ⟨gb,15,none⟩ (.int .i64 (a.tk + 1)):=⟨_,rfl⟩
 have G:Hid (Gs W1 w B gb g1 a.c g2 a.c2 a.h ds a.nx ps (a.tk + 1) a.rc):=by rw [hW1];exact G.out.tick _
 rw [← hW1]
 clear hW1 m15 z15 w1
 go_wp2_with fail
 go_loopw [6] (fun kk wr=>∃ k:Nat,kk=.int .i64 k∧k≤a.n∧Gs wr w B gb g1 a.c g2 a.c2 a.h (tk8 a.h a.rc dl du (ds,ps) k).1 a.nx (tk8 a.h a.rc dl du (ds,ps) k).2 (a.tk + 1) a.rc) (fun kk _=>a.n - (intOf kk).toNat)
 case atStart=>exact ⟨0,rfl,by omega,G.out⟩
 case round=>
  obtain ⟨k,rfl,hk,g⟩:=hrel
  have T:TkOk a (tk8 a.h a.rc dl du (ds,ps) k):=tk8_ok h3 d1 d2 e1 e2 OK.out k hk
  obtain ⟨q,hq⟩:∃ q,tk8 a.h a.rc dl du (ds,ps) k=q:=⟨_,rfl⟩
  rw [hq] at g T
  have hl1:=T.ld
  have g12:=g.f.c 12 _ rfl
  rw [hl1] at g12
  by_cases hlt:k < a.n
  ·have hlt':decide ((k:Int) < (a.n:Int))=true:=decide_eq_true (by omega)
   obtain ⟨d,hd⟩:∃ d,q.1[k]? = some d:=⟨_,List.getElem?_eq_getElem (by omega)⟩
   have hs:tk8 a.h a.rc dl du (ds,ps) (k + 1)=(q.1.set k (end8 a.h (mid8 a.h (freeD a.h d) (need8 a.h q.1 q.2 a.rc k 0) (need8 a.h q.1 q.2 a.rc k 1) dl du)),ppl8 a.h a.rc q.2 k (mid8 a.h (freeD a.h d) (need8 a.h q.1 q.2 a.rc k 0) (need8 a.h q.1 q.2 a.rc k 1) dl du)):=by
    show (match (tk8 a.h a.rc dl du (ds,ps) k).1[k]? with | some d=>_ | none=>_)=_
    rw [hq,hd]
   have CD:=fun w' (G:Gs w' w B gb g1 a.c g2 a.c2 a.h q.1 a.nx q.2 (a.tk + 1) a.rc)=>l8Deck_w (a:={ a with tk:=a.tk + 1 }) hl1 (by show a.n≤_;omega) d hd (T.dk k d hd) q.2 T.led T.lp (by omega) dl du d1 d2 e1 e2 _ rfl w' G |>.mono fun e w'' h=>(⟨h.1,hs ▸ h.2.gs⟩:e=.returned (.tuple #[])∧Gs w'' w B gb g1 a.c g2 a.c2 a.h (tk8 a.h a.rc dl du (ds,ps) (k + 1)).1 a.nx (tk8 a.h a.rc dl du (ds,ps) (k + 1)).2 (a.tk + 1) a.rc)
   have w2:IntKind.i64.wrap ((k:Int) + 1)=(k:Int) + 1:=IntWalk.i64_in _ (by omega)
   have GG:=zH g
   have HLT:=zH hlt
   clear hs g hlt hq hd T OK G hl
   go_wp2_with (go_at_call 39;refine (CD _ GG.out).mono ?_;rintro e w4 ⟨rfl,G2⟩)
   go_roundw
   case rel=>exact ⟨k + 1,rfl,HLT.out,G2⟩
   case measure=>have:=HLT.out;simp [intOf];omega
  ·obtain rfl:k=a.n:=by omega
   have hlt':decide ((a.n:Int) < (a.n:Int))=false:=decide_eq_false (by omega)
   clear hlt
   rw [← hq] at g
   have GG:=zH g
   clear g hq T OK G hl hl1
   go_wp2_with fail
   exact bodyPost_end (results_none rfl _ _ _) rfl ⟨rfl,GG.out⟩
end Go.Proofs.YteimojoicfjdjaaGreat
namespace Go.Proofs.YteimojoicfjdjaaGreat
set_option maxRecDepth 20000
set_option maxHeartbeats 32000000
open Value renaming int → I
open IntKind renaming i64 → Z
open Go.RowKit Pl
set_option linter.unusedSimpArgs false
set_option linter.unusedVariables false
theorem Gr.tkOk{h:Hs}{ds:List Dk}{nx:Int}{ps:List Pe}{tk:Int}{rc:Bool}{c c2:Nat}(e:Gr.fault ⟨h,ds,⟨nx,ps⟩,tk,rc⟩=0):TkOk ⟨h,ds.length,c,nx,ps.length,c2,tk,rc⟩ (ds,ps):=
 have q:=Gr.fault_parts e
 ⟨rfl,rfl,led_zero_iff.1 q.2.2.2.1,fun i d hd=>deck_iff.1 (decks_zero q.2.2.1 i d hd)⟩
theorem drift_in{h:Hs}(e:h.fault=0):IntKind.i64.wrap (-h.dr)=-h.dr∧0≤h.dr:=by
 have o:=Hs.ok_of (Hs.fault_zero e).1
 have:=o.dr1;have:=o.dr2;have:=o.pu2;have:=o.sp2
 exact ⟨IntWalk.i64_in _ (by omega),by omega⟩
theorem two_out(h:Hs)(ds:List Dk)(gd dc:Nat)(nx:Int)(ps:List Pe)(gp pc:Nat)(tk:Int)(rc:Bool)(w:World)(hI:GI w gd gp ds ps):∃ W0,W0=((w.alloc (.cells #[I Z h.fl,I Z h.gp,I Z h.ln,I Z h.rf,I Z h.sp,I Z h.pu,I Z h.br,I Z h.dr,I Z h.lv,I Z h.dO,I Z h.ld,I Z h.qu,.slice (some ⟨gd,0,none⟩) ds.length dc,I Z nx,.slice (some ⟨gp,0,none⟩) ps.length pc,I Z tk,.bool rc] 37)).alloc (.cells #[I Z 0,I Z 0,I Z 0,I Z 0,I Z 0,I Z 0,I Z 0,I Z 0,I Z 0,I Z 0,I Z 0,I Z 0,I Z 0,I Z 0,.slice none 0 0,I Z 0,.slice none 0 0,I Z 0,.bool false] 39))∧Blk W0 w.heap.size (gvs h (.slice (some ⟨gd,0,none⟩) ds.length dc) nx (.slice (some ⟨gp,0,none⟩) ps.length pc) tk rc)∧Blk W0 (w.heap.size + 1) ([I Z 0,I Z 0,I Z 0,I Z 0,I Z 0,I Z 0,I Z 0,I Z 0,I Z 0,I Z 0,I Z 0,I Z 0,I Z 0,I Z 0,.slice none 0 0,I Z 0,.slice none 0 0,I Z 0,.bool false])∧Below w.heap.size w W0∧GI W0 gd gp ds ps:=
 ⟨_,rfl,(Blk.at_ w #[I Z h.fl,I Z h.gp,I Z h.ln,I Z h.rf,I Z h.sp,I Z h.pu,I Z h.br,I Z h.dr,I Z h.lv,I Z h.dO,I Z h.ld,I Z h.qu,.slice (some ⟨gd,0,none⟩) ds.length dc,I Z nx,.slice (some ⟨gp,0,none⟩) ps.length pc,I Z tk,.bool rc] _ _ rfl).alloc _,Blk.at_ _ #[I Z 0,I Z 0,I Z 0,I Z 0,I Z 0,I Z 0,I Z 0,I Z 0,I Z 0,I Z 0,I Z 0,I Z 0,I Z 0,I Z 0,.slice none 0 0,I Z 0,.slice none 0 0,I Z 0,.bool false] _ _ (by simp),((Below.refl _ _).alloc (Nat.le_refl _) _).alloc (by simp) _,(hI.alloc _).alloc _⟩
theorem specTickGroup_no(h:Hs)(ds:List Dk)(gd dc:Nat)(nx:Int)(ps:List Pe)(gp pc:Nat)(tk:Int)(rc:Bool)(dl du:Int)(hf:Gr.fault ⟨h,ds,⟨nx,ps⟩,tk,rc⟩ ≠ 0)(hld:ds.length≤1048576)(hlp:ps.length≤1048576)(w:World)(hI:GI w gd gp ds ps):Calls Tryz.prog 5 #[.agg #[I Z h.fl,I Z h.gp,I Z h.ln,I Z h.rf,I Z h.sp,I Z h.pu,I Z h.br,I Z h.dr,I Z h.lv,I Z h.dO,I Z h.ld,I Z h.qu,.slice (some ⟨gd,0,none⟩) ds.length dc,I Z nx,.slice (some ⟨gp,0,none⟩) ps.length pc,I Z tk,.bool rc],I Z dl,I Z du] w (isGrp w (Gr.fault ⟨h,ds,⟨nx,ps⟩,tk,rc⟩) 0 zeroH [] 0 [] 0 false):=by
 have hn:(Gr.fault ⟨h,ds,⟨nx,ps⟩,tk,rc⟩ != 0)=true:=by simpa using hf
 clear hf
 obtain ⟨W0,hW0,f0,f1,fb,fi⟩:=two_out h ds gd dc nx ps gp pc tk rc w hI
 have HW0:=zH hW0
 have F0:=zH f0
 have F1:=zH f1
 have FB:=zH fb
 have FI:=zH fi
 have LI:Hid (gd < w.heap.size∧gp < w.heap.size):=⟨hI.ld,hI.lp⟩
 clear hW0 f0 f1 fb fi hI
 go_enter Tryz.func5,Tryz.ntmps5
 go_upto_region 1 with fail
 rw [← HW0.out]
 go_wp2_with (first | (refine load_blk 37 _ Tryz.underlying37 (by kernel_rfl) F0.out rfl rfl rfl ?_) | (go_at_call 15;refine (specGroupFault_any h ds (some ⟨gd,0,none⟩) dc nx ps (some ⟨gp,0,none⟩) pc tk rc hld hlp _ FI.out.din FI.out.pin).mono ?_;rintro e w1 ⟨rfl,hb⟩;have F0:=bB F0 hb;have F1:=bB F1 hb;have FI:Hid (GI w1 gd gp ds ps):=FI.out.below hb FI.out.ld FI.out.lp;have FB:=tB FB hb;clear hb) | (refine store_blk ([I Z (Gr.fault ⟨h,ds,⟨nx,ps⟩,tk,rc⟩),I Z 0,I Z 0,I Z 0,I Z 0,I Z 0,I Z 0,I Z 0,I Z 0,I Z 0,I Z 0,I Z 0,I Z 0,I Z 0,.slice none 0 0,I Z 0,.slice none 0 0,I Z 0,.bool false]) 39 _ _ (by kernel_rfl) (by kernel_rfl) (by kernel_rfl) F1.out rfl rfl rfl rfl ?_))
 exact bodyPost_ret (v:=.agg #[I Z (Gr.fault ⟨h,ds,⟨nx,ps⟩,tk,rc⟩),I Z 0,I Z 0,I Z 0,I Z 0,I Z 0,I Z 0,I Z 0,I Z 0,I Z 0,I Z 0,I Z 0,I Z 0,I Z 0,.slice none 0 0,I Z 0,.slice none 0 0,I Z 0,.bool false]) ((F1.out.row [I Z (Gr.fault ⟨h,ds,⟨nx,ps⟩,tk,rc⟩),I Z 0,I Z 0,I Z 0,I Z 0,I Z 0,I Z 0,I Z 0,I Z 0,I Z 0,I Z 0,I Z 0,I Z 0,I Z 0,.slice none 0 0,I Z 0,.slice none 0 0,I Z 0,.bool false]).res _ Tryz.results5 Tryz.underlying39 (by kernel_rfl) rfl) rfl (isGrp.no (below_row FB.out (by omega) _))
theorem specTickGroup_far(h:Hs)(ds:List Dk)(gd dc:Nat)(nx:Int)(ps:List Pe)(gp pc:Nat)(tk:Int)(rc:Bool)(dl du:Int)(hf:Gr.fault ⟨h,ds,⟨nx,ps⟩,tk,rc⟩=0)(i1:inB dl (-h.dr) h.dr=false)(hld:ds.length≤1048576)(hlp:ps.length≤1048576)(w:World)(hI:GI w gd gp ds ps):Calls Tryz.prog 5 #[.agg #[I Z h.fl,I Z h.gp,I Z h.ln,I Z h.rf,I Z h.sp,I Z h.pu,I Z h.br,I Z h.dr,I Z h.lv,I Z h.dO,I Z h.ld,I Z h.qu,.slice (some ⟨gd,0,none⟩) ds.length dc,I Z nx,.slice (some ⟨gp,0,none⟩) ps.length pc,I Z tk,.bool rc],I Z dl,I Z du] w (isGrp w 3 0 zeroH [] 0 [] 0 false):=by
 have gfp:=Gr.fault_parts hf
 obtain ⟨wn,d0⟩:=drift_in gfp.1
 clear gfp
 obtain ⟨W0,hW0,f0,f1,fb,fi⟩:=two_out h ds gd dc nx ps gp pc tk rc w hI
 have HW0:=zH hW0
 have F0:=zH f0
 have F1:=zH f1
 have FB:=zH fb
 have FI:=zH fi
 have LI:Hid (gd < w.heap.size∧gp < w.heap.size):=⟨hI.ld,hI.lp⟩
 clear hW0 f0 f1 fb fi hI
 go_enter Tryz.func5,Tryz.ntmps5
 go_upto_region 1 with fail
 rw [← HW0.out]
 clear HW0
 go_upto_region 4 with (first | (refine load_blk 37 _ Tryz.underlying37 (by kernel_rfl) F0.out rfl rfl rfl ?_) | (go_at_call 15;refine (specGroupFault_any h ds (some ⟨gd,0,none⟩) dc nx ps (some ⟨gp,0,none⟩) pc tk rc hld hlp _ FI.out.din FI.out.pin).mono ?_;rw [hf];rintro e w1 ⟨rfl,hb⟩;have F0:=bB F0 hb;have F1:=bB F1 hb;have FI:Hid (GI w1 gd gp ds ps):=FI.out.below hb FI.out.ld FI.out.lp;have FB:=tB FB hb;clear hb))
 have x7:=F0.out.c 7 _ rfl
 have x15:=F0.out.c 15 _ rfl
 go_wp2_with (first | (go_at_call 16;refine (l1In_any _ _ _ _).mono ?_;(first | rw [i1] | rw [i2]);rintro e w' ⟨rfl,hw⟩;obtain rfl:=hw.symm;clear hw) | (refine store_blk ([I Z 3,I Z 0,I Z 0,I Z 0,I Z 0,I Z 0,I Z 0,I Z 0,I Z 0,I Z 0,I Z 0,I Z 0,I Z 0,I Z 0,.slice none 0 0,I Z 0,.slice none 0 0,I Z 0,.bool false]) 39 _ _ (by kernel_rfl) (by kernel_rfl) (by kernel_rfl) F1.out rfl rfl rfl rfl ?_))
 exact bodyPost_ret (v:=.agg #[I Z 3,I Z 0,I Z 0,I Z 0,I Z 0,I Z 0,I Z 0,I Z 0,I Z 0,I Z 0,I Z 0,I Z 0,I Z 0,I Z 0,.slice none 0 0,I Z 0,.slice none 0 0,I Z 0,.bool false]) ((F1.out.row [I Z 3,I Z 0,I Z 0,I Z 0,I Z 0,I Z 0,I Z 0,I Z 0,I Z 0,I Z 0,I Z 0,I Z 0,I Z 0,I Z 0,.slice none 0 0,I Z 0,.slice none 0 0,I Z 0,.bool false]).res _ Tryz.results5 Tryz.underlying39 (by kernel_rfl) rfl) rfl (isGrp.no (below_row FB.out (by omega) _))
theorem specTickGroup_far2(h:Hs)(ds:List Dk)(gd dc:Nat)(nx:Int)(ps:List Pe)(gp pc:Nat)(tk:Int)(rc:Bool)(dl du:Int)(hf:Gr.fault ⟨h,ds,⟨nx,ps⟩,tk,rc⟩=0)(i1:inB dl (-h.dr) h.dr=true)(i2:inB du (-h.dr) h.dr=false)(hld:ds.length≤1048576)(hlp:ps.length≤1048576)(w:World)(hI:GI w gd gp ds ps):Calls Tryz.prog 5 #[.agg #[I Z h.fl,I Z h.gp,I Z h.ln,I Z h.rf,I Z h.sp,I Z h.pu,I Z h.br,I Z h.dr,I Z h.lv,I Z h.dO,I Z h.ld,I Z h.qu,.slice (some ⟨gd,0,none⟩) ds.length dc,I Z nx,.slice (some ⟨gp,0,none⟩) ps.length pc,I Z tk,.bool rc],I Z dl,I Z du] w (isGrp w 3 0 zeroH [] 0 [] 0 false):=by
 have gfp:=Gr.fault_parts hf
 obtain ⟨wn,d0⟩:=drift_in gfp.1
 clear gfp
 obtain ⟨W0,hW0,f0,f1,fb,fi⟩:=two_out h ds gd dc nx ps gp pc tk rc w hI
 have HW0:=zH hW0
 have F0:=zH f0
 have F1:=zH f1
 have FB:=zH fb
 have FI:=zH fi
 have LI:Hid (gd < w.heap.size∧gp < w.heap.size):=⟨hI.ld,hI.lp⟩
 clear hW0 f0 f1 fb fi hI
 go_enter Tryz.func5,Tryz.ntmps5
 go_upto_region 1 with fail
 rw [← HW0.out]
 clear HW0
 go_upto_region 4 with (first | (refine load_blk 37 _ Tryz.underlying37 (by kernel_rfl) F0.out rfl rfl rfl ?_) | (go_at_call 15;refine (specGroupFault_any h ds (some ⟨gd,0,none⟩) dc nx ps (some ⟨gp,0,none⟩) pc tk rc hld hlp _ FI.out.din FI.out.pin).mono ?_;rw [hf];rintro e w1 ⟨rfl,hb⟩;have F0:=bB F0 hb;have F1:=bB F1 hb;have FI:Hid (GI w1 gd gp ds ps):=FI.out.below hb FI.out.ld FI.out.lp;have FB:=tB FB hb;clear hb))
 have x7:=F0.out.c 7 _ rfl
 have x15:=F0.out.c 15 _ rfl
 go_wp2_with (first | (go_at_call 16;refine (l1In_any _ _ _ _).mono ?_;(first | rw [i1] | rw [i2]);rintro e w' ⟨rfl,hw⟩;obtain rfl:=hw.symm;clear hw) | (refine store_blk ([I Z 3,I Z 0,I Z 0,I Z 0,I Z 0,I Z 0,I Z 0,I Z 0,I Z 0,I Z 0,I Z 0,I Z 0,I Z 0,I Z 0,.slice none 0 0,I Z 0,.slice none 0 0,I Z 0,.bool false]) 39 _ _ (by kernel_rfl) (by kernel_rfl) (by kernel_rfl) F1.out rfl rfl rfl rfl ?_))
 exact bodyPost_ret (v:=.agg #[I Z 3,I Z 0,I Z 0,I Z 0,I Z 0,I Z 0,I Z 0,I Z 0,I Z 0,I Z 0,I Z 0,I Z 0,I Z 0,I Z 0,.slice none 0 0,I Z 0,.slice none 0 0,I Z 0,.bool false]) ((F1.out.row [I Z 3,I Z 0,I Z 0,I Z 0,I Z 0,I Z 0,I Z 0,I Z 0,I Z 0,I Z 0,I Z 0,I Z 0,I Z 0,I Z 0,.slice none 0 0,I Z 0,.slice none 0 0,I Z 0,.bool false]).res _ Tryz.results5 Tryz.underlying39 (by kernel_rfl) rfl) rfl (isGrp.no (below_row FB.out (by omega) _))
theorem specTickGroup_many(h:Hs)(ds:List Dk)(gd dc:Nat)(nx:Int)(ps:List Pe)(gp pc:Nat)(tk:Int)(rc:Bool)(dl du:Int)(hf:Gr.fault ⟨h,ds,⟨nx,ps⟩,tk,rc⟩=0)(i1:inB dl (-h.dr) h.dr=true)(i2:inB du (-h.dr) h.dr=true)(ht:tk=1000000000000000)(hld:ds.length≤1048576)(hlp:ps.length≤1048576)(w:World)(hI:GI w gd gp ds ps):Calls Tryz.prog 5 #[.agg #[I Z h.fl,I Z h.gp,I Z h.ln,I Z h.rf,I Z h.sp,I Z h.pu,I Z h.br,I Z h.dr,I Z h.lv,I Z h.dO,I Z h.ld,I Z h.qu,.slice (some ⟨gd,0,none⟩) ds.length dc,I Z nx,.slice (some ⟨gp,0,none⟩) ps.length pc,I Z tk,.bool rc],I Z dl,I Z du] w (isGrp w 2 0 zeroH [] 0 [] 0 false):=by
 have gfp:=Gr.fault_parts hf
 obtain ⟨wn,d0⟩:=drift_in gfp.1
 clear gfp
 subst ht
 obtain ⟨W0,hW0,f0,f1,fb,fi⟩:=two_out h ds gd dc nx ps gp pc 1000000000000000 rc w hI
 have HW0:=zH hW0
 have F0:=zH f0
 have F1:=zH f1
 have FB:=zH fb
 have FI:=zH fi
 have LI:Hid (gd < w.heap.size∧gp < w.heap.size):=⟨hI.ld,hI.lp⟩
 clear hW0 f0 f1 fb fi hI
 go_enter Tryz.func5,Tryz.ntmps5
 go_upto_region 1 with fail
 rw [← HW0.out]
 clear HW0
 go_upto_region 4 with (first | (refine load_blk 37 _ Tryz.underlying37 (by kernel_rfl) F0.out rfl rfl rfl ?_) | (go_at_call 15;refine (specGroupFault_any h ds (some ⟨gd,0,none⟩) dc nx ps (some ⟨gp,0,none⟩) pc 1000000000000000 rc hld hlp _ FI.out.din FI.out.pin).mono ?_;rw [hf];rintro e w1 ⟨rfl,hb⟩;have F0:=bB F0 hb;have F1:=bB F1 hb;have FI:Hid (GI w1 gd gp ds ps):=FI.out.below hb FI.out.ld FI.out.lp;have FB:=tB FB hb;clear hb))
 have x7:=F0.out.c 7 _ rfl
 have x15:=F0.out.c 15 _ rfl
 go_wp2_with (first | (go_at_call 16;refine (l1In_any _ _ _ _).mono ?_;(first | rw [i1] | rw [i2]);rintro e w' ⟨rfl,hw⟩;obtain rfl:=hw.symm;clear hw) | (refine store_blk ([I Z 2,I Z 0,I Z 0,I Z 0,I Z 0,I Z 0,I Z 0,I Z 0,I Z 0,I Z 0,I Z 0,I Z 0,I Z 0,I Z 0,.slice none 0 0,I Z 0,.slice none 0 0,I Z 0,.bool false]) 39 _ _ (by kernel_rfl) (by kernel_rfl) (by kernel_rfl) F1.out rfl rfl rfl rfl ?_))
 exact bodyPost_ret (v:=.agg #[I Z 2,I Z 0,I Z 0,I Z 0,I Z 0,I Z 0,I Z 0,I Z 0,I Z 0,I Z 0,I Z 0,I Z 0,I Z 0,I Z 0,.slice none 0 0,I Z 0,.slice none 0 0,I Z 0,.bool false]) ((F1.out.row [I Z 2,I Z 0,I Z 0,I Z 0,I Z 0,I Z 0,I Z 0,I Z 0,I Z 0,I Z 0,I Z 0,I Z 0,I Z 0,I Z 0,.slice none 0 0,I Z 0,.slice none 0 0,I Z 0,.bool false]).res _ Tryz.results5 Tryz.underlying39 (by kernel_rfl) rfl) rfl (isGrp.no (below_row FB.out (by omega) _))
theorem specTickGroup_ok(h:Hs)(ds:List Dk)(gd dc:Nat)(nx:Int)(ps:List Pe)(gp pc:Nat)(tk:Int)(rc:Bool)(dl du:Int)(hf:Gr.fault ⟨h,ds,⟨nx,ps⟩,tk,rc⟩=0)(i1:inB dl (-h.dr) h.dr=true)(i2:inB du (-h.dr) h.dr=true)(ht:¬ tk=1000000000000000)(hld:ds.length≤1048576)(hlp:ps.length≤1048576)(w:World)(hI:GI w gd gp ds ps):Calls Tryz.prog 5 #[.agg #[I Z h.fl,I Z h.gp,I Z h.ln,I Z h.rf,I Z h.sp,I Z h.pu,I Z h.br,I Z h.dr,I Z h.lv,I Z h.dO,I Z h.ld,I Z h.qu,.slice (some ⟨gd,0,none⟩) ds.length dc,I Z nx,.slice (some ⟨gp,0,none⟩) ps.length pc,I Z tk,.bool rc],I Z dl,I Z du] w (isGrp w 0 0 h (tk8 h rc dl du (ds,ps) ds.length).1 nx (tk8 h rc dl du (ds,ps) ds.length).2 (tk + 1) rc):=by
 have gfp:=Gr.fault_parts hf
 obtain ⟨wn,d0⟩:=drift_in gfp.1
 have T0:0≤tk:=gfp.2.2.2.2.2.1
 have T1:tk≤1000000000000000:=gfp.2.2.2.2.2.2
 have N3:ds.length≤3:=by have:=gfp.2.1.2;dsimp only at this;omega
 have TO:∀ c c2,TkOk ⟨h,ds.length,c,nx,ps.length,c2,tk,rc⟩ (ds,ps):=fun c c2=>Gr.tkOk hf
 have TT:Hid (0≤tk∧tk≤1000000000000000∧ds.length≤3∧(∀ c c2,TkOk ⟨h,ds.length,c,nx,ps.length,c2,tk,rc⟩ (ds,ps))∧inB dl (-h.dr) h.dr=true∧inB du (-h.dr) h.dr=true∧ps.length≤1048576):=⟨T0,T1,N3,TO,i1,i2,hlp⟩
 clear gfp T0 T1 N3 TO
 obtain ⟨W0,hW0,f0,f1,fb,fi⟩:=two_out h ds gd dc nx ps gp pc tk rc w hI
 have HW0:=zH hW0
 have F0:=zH f0
 have F1:=zH f1
 have FB:=zH fb
 have FI:=zH fi
 have LI:Hid (gd < w.heap.size∧gp < w.heap.size):=⟨hI.ld,hI.lp⟩
 clear hW0 f0 f1 fb fi hI
 go_enter Tryz.func5,Tryz.ntmps5
 go_upto_region 1 with fail
 rw [← HW0.out]
 clear HW0
 go_upto_region 4 with (first | (refine load_blk 37 _ Tryz.underlying37 (by kernel_rfl) F0.out rfl rfl rfl ?_) | (go_at_call 15;refine (specGroupFault_any h ds (some ⟨gd,0,none⟩) dc nx ps (some ⟨gp,0,none⟩) pc tk rc hld hlp _ FI.out.din FI.out.pin).mono ?_;rw [hf];rintro e w1 ⟨rfl,hb⟩;have F0:=bB F0 hb;have F1:=bB F1 hb;have FI:Hid (GI w1 gd gp ds ps):=FI.out.below hb FI.out.ld FI.out.lp;have FB:=tB FB hb;clear hb))
 have x7:=F0.out.c 7 _ rfl
 have x15:=F0.out.c 15 _ rfl
 go_upto_region 8 with (go_at_call 16;refine (l1In_any _ _ _ _).mono ?_;(first | rw [i1] | rw [i2]);rintro e w' ⟨rfl,hw⟩;obtain rfl:=hw.symm;clear hw)
 clear x7 x15 wn d0 i1 i2
 go_upto_region 9 with (first | (refine load_blk 37 _ Tryz.underlying37 (by kernel_rfl) F0.out rfl rfl rfl ?_) | (go_at_call 17;refine (l8Copy_any h ds gd dc nx ps gp pc tk rc hld hlp _ FI.out).mono ?_;rintro e w2 ⟨g1,c1,g2,c2,rfl,ho1,ho2,ne12,hb⟩;have q1:=F1.out.lt;have FD:Hid (OwD w2 (w.heap.size + 2) g1 ds.length c1 (ds)):=ho1.base (by omega);have FP:Hid (Ow w2 (w.heap.size + 2) g2 ps.length c2 (ps)):=ho2.base (by omega);have F0:=bB F0 hb;have F1:=bB F1 hb;have FI:Hid (GI w2 gd gp ds ps):=FI.out.below hb FI.out.ld FI.out.lp;have FB:=tB FB hb;clear hb;clear ho1 ho2 q1) | (refine store_new (gvs h (.slice (some ⟨g1,0,none⟩) ds.length c1) nx (.slice (some ⟨g2,0,none⟩) ps.length c2) tk rc) 37 _ _ (by kernel_rfl) (by kernel_rfl) (by kernel_rfl) rfl rfl rfl rfl ?_))
 obtain ⟨gb,hgb⟩:∃ b,b=w2.heap.size:=⟨_,rfl⟩
 obtain ⟨W3,hW⟩:∃ W,W=w2.alloc (.cells (gvs h (.slice (some ⟨g1,0,none⟩) ds.length c1) nx (.slice (some ⟨g2,0,none⟩) ps.length c2) tk rc).toArray 37):=⟨_,rfl⟩
 have lg:=F1.out.lt
 rw [← hgb] at lg
 have lg1:=FD.out.bl.2
 rw [← hgb] at lg1
 have lg2:=FP.out.bl.2
 rw [← hgb] at lg2
 have F0:Hid (Blk W3 w.heap.size (gvs h (.slice (some ⟨gd,0,none⟩) ds.length dc) nx (.slice (some ⟨gp,0,none⟩) ps.length pc) tk rc)):=by rw [hW];exact F0.out.alloc _
 have F1:Hid (Blk W3 (w.heap.size + 1) ([I Z 0,I Z 0,I Z 0,I Z 0,I Z 0,I Z 0,I Z 0,I Z 0,I Z 0,I Z 0,I Z 0,I Z 0,I Z 0,I Z 0,.slice none 0 0,I Z 0,.slice none 0 0,I Z 0,.bool false])):=by rw [hW];exact F1.out.alloc _
 have FI:Hid (GI W3 gd gp ds ps):=by rw [hW];exact FI.out.alloc _
 have FB:Hid (Below w.heap.size w W3):=by rw [hW];exact FB.out.alloc FB.out.size _
 have FD:Hid (OwD W3 (w.heap.size + 2) g1 ds.length c1 (ds)):=by rw [hW];exact FD.out.alloc _
 have FP:Hid (Ow W3 (w.heap.size + 2) g2 ps.length c2 (ps)):=by rw [hW];exact FP.out.alloc _
 have FG:Hid (Blk W3 gb (gvs h (.slice (some ⟨g1,0,none⟩) ds.length c1) nx (.slice (some ⟨g2,0,none⟩) ps.length c2) tk rc)):=by rw [hW];exact Blk.at_ w2 (gvs h (.slice (some ⟨g1,0,none⟩) ds.length c1) nx (.slice (some ⟨g2,0,none⟩) ps.length c2) tk rc).toArray _ _ hgb
 rw [← hW,← hgb]
 clear hW hgb
 have lB1:=FD.out.bl.1
 have lB2:=FP.out.bl.1
 obtain ⟨t0,t1,n3,ok,j1,j2,l2⟩:=TT.out
 rw [inB_iff] at j1 j2
 have G0:Gs W3 W3 (w.heap.size + 2) gb g1 c1 g2 c2 h ds nx ps tk rc:=⟨FG.out,FD.out,FP.out,by omega,by omega,ne12,by omega,Below.refl _ _⟩
 have CT:=l8Tick_w (a:=⟨h,ds.length,c1,nx,ps.length,c2,tk,rc⟩) n3 l2 (ok c1 c2) dl du j1.1 j1.2 j2.1 j2.2 t0 t1 W3 G0
 obtain ⟨q,hq⟩:∃ q,(tk8 h rc dl du (ds,ps) ds.length)=q:=⟨_,rfl⟩
 dsimp only at CT
 rw [hq] at CT
 have HQ:=zH hq
 have HT:=zH CT
 clear CT G0 ok hq j1 j2 t0 t1 n3 FG FD FP FI F0
 go_upto_region 10 with (go_at_call 18;refine HT.out.mono ?_;rintro e w4 ⟨rfl,G⟩;have F1:Hid (Blk w4 (w.heap.size + 1) ([I Z 0,I Z 0,I Z 0,I Z 0,I Z 0,I Z 0,I Z 0,I Z 0,I Z 0,I Z 0,I Z 0,I Z 0,I Z 0,I Z 0,.slice none 0 0,I Z 0,.slice none 0 0,I Z 0,.bool false])):=F1.out.below G.fb (by omega);have FB:Hid (Below w.heap.size w w4):=FB.out.trans (G.fb.mono (by omega));have FG:Hid (Blk w4 gb (gvs h (.slice (some ⟨g1,0,none⟩) q.1.length c1) nx (.slice (some ⟨g2,0,none⟩) q.2.length c2) (tk + 1) rc)):=G.f;have FD:Hid (OwD w4 (w.heap.size + 2) g1 q.1.length c1 q.1):=G.d;have FP:Hid (Ow w4 (w.heap.size + 2) g2 q.2.length c2 q.2):=G.p;clear G)
 clear HT
 go_wp2_with (first | (refine load_blk 37 _ Tryz.underlying37 (by kernel_rfl) FG.out rfl rfl rfl ?_) | (refine store_blk (rvs 0 0 h (.slice (some ⟨g1,0,none⟩) q.1.length c1) nx (.slice (some ⟨g2,0,none⟩) q.2.length c2) (tk + 1) rc) 39 _ _ (by kernel_rfl) (by kernel_rfl) (by kernel_rfl) F1.out rfl rfl rfl rfl ?_))
 refine bodyPost_ret (v:=.agg #[I Z 0,I Z 0,I Z h.fl,I Z h.gp,I Z h.ln,I Z h.rf,I Z h.sp,I Z h.pu,I Z h.br,I Z h.dr,I Z h.lv,I Z h.dO,I Z h.ld,I Z h.qu,.slice (some ⟨g1,0,none⟩) q.1.length c1,I Z nx,.slice (some ⟨g2,0,none⟩) q.2.length c2,I Z (tk + 1),.bool rc]) ((F1.out.row (rvs 0 0 h (.slice (some ⟨g1,0,none⟩) q.1.length c1) nx (.slice (some ⟨g2,0,none⟩) q.2.length c2) (tk + 1) rc)).res _ Tryz.results5 Tryz.underlying39 (by kernel_rfl) rfl) rfl ?_
 rw [HQ.out]
 have o1:=((FD.out.row (b:=w.heap.size + 1) (by have:=FD.out.bl.1;omega) (rvs 0 0 h (.slice (some ⟨g1,0,none⟩) q.1.length c1) nx (.slice (some ⟨g2,0,none⟩) q.2.length c2) (tk + 1) rc).toArray).base (show w.heap.size≤w.heap.size + 2 by omega)).own
 have o2:=((FP.out.row (b:=w.heap.size + 1) (by have:=FP.out.bl.1;omega) (rvs 0 0 h (.slice (some ⟨g1,0,none⟩) q.1.length c1) nx (.slice (some ⟨g2,0,none⟩) q.2.length c2) (tk + 1) rc).toArray).base (show w.heap.size≤w.heap.size + 2 by omega)).own
 exact ⟨some ⟨g1,0,none⟩,c1,some ⟨g2,0,none⟩,c2,rfl,o1,o2,(fun j e1 e2=>by have a1:g1=j:=Option.some.inj e1;have a2:g2=j:=Option.some.inj e2;omega),below_row FB.out (by omega) _⟩
end Go.Proofs.YteimojoicfjdjaaGreat
namespace Go.Proofs.YteimojoicfjdjaaGreat
set_option maxRecDepth 20000
set_option maxHeartbeats 16000000
open Value renaming int → I
open IntKind renaming i64 → Z
open Go.RowKit Pl
set_option linter.unusedSimpArgs false
set_option linter.unusedVariables false
theorem infoDK13:(Tryz.prog.info? 73).map (·.size)=some 13:=by kernel_rfl
theorem wpList_copy_dk{w:World}{ops:Array Oper}{rest:List Oper}{a:Act}{Q:Exit→Act→World→Prop}{d s:Operand}{dst:Option Tmp}{ty:TypeId}{ps:String}{af:Array Edge}
  (B g:Nat) (l m:List Dk) (hO:OwD w B g m.length m.length l) (sb so sc:Nat) (hd:a.eval d=.slice (some ⟨g,0,none⟩) m.length m.length) (hs:a.eval s=.slice (some ⟨sb,so,none⟩) m.length sc)
  (hm:∀ i p,m[i]? = some p→D13 w sb (so + i * 13) p)
  (h:∀ w',OwD w' B g m.length m.length m→w.grownBy w' (some g)→wpList Tryz.prog ops Q rest (a.put dst (goInt m.length)) w'):wpList Tryz.prog ops Q ({ dst:=dst,op:=.call { callee:=.builtin .copy,args:=#[d,s],argTypes:=#[32,32] },type:=ty,pos:=ps,after:=af,guard:=none } :: rest) a w:=by
 refine wpList_plain rfl fun K hK=>?_
 obtain ⟨hln,hx,hr⟩:=hO
 rcases hr with ⟨e,_⟩ | ⟨g',cap',cur,e,hB,hg,hnc,hcm,hsz,htk⟩
 ·cases e
 ·cases e
  have hfm:=flatD_length m
  have hmin:Nat.min m.length m.length=m.length:=Nat.min_self _
  have hrun:=run_copy_rows (P:=Tryz.prog) w 32 32 ty 73 13 g 0 m.length m.length ⟨sb,so,none⟩ m.length sc cur 73 (flatD m) undDS infoDK13 hg (by rw [hfm,hmin]) (news_atD hm) (by rw [hfm,hsz];omega) (flatD_one m)
  rw [hmin] at hrun
  have hrow:(cur.toList.take 0 ++ flatD m ++ cur.toList.drop (0 + (flatD m).length))=flatD m:=by
   rw [List.take_zero,List.nil_append,Nat.zero_add,hfm,← hsz,List.drop_of_length_le (by simp),List.append_nil]
  rw [hrow] at hrun
  have hO':OwD (w.setRow g (flatD m).toArray) B g m.length m.length m:=by
   refine ⟨rfl,hfm,Or.inr ⟨g,m.length,_,rfl,hB,setRow_heap w g cur _ 73 _ hg,Nat.le_refl _,hcm,by simp [hfm],?_⟩⟩
   rw [List.take_of_length_le (by simp [hfm])]
  have q:=h _ hO' (grown_row _)
  unfold Oper.wp
  simp [execOp,resolve,invoke,builtin,hd,hs,hrun,Result.andThen]
  exact hK _ _ (by simpa using q)
theorem copiedGroup_any(h:Hs)(ds:List Dk)(gd dc:Nat)(nx:Int)(ps:List Pe)(gp pc:Nat)(tk:Int)(rc:Bool)(hld:ds.length≤1048576)(hlp:ps.length≤1048576)(w:World)(hI:GI w gd gp ds ps):Calls Tryz.prog 24 #[.agg #[I Z h.fl,I Z h.gp,I Z h.ln,I Z h.rf,I Z h.sp,I Z h.pu,I Z h.br,I Z h.dr,I Z h.lv,I Z h.dO,I Z h.ld,I Z h.qu,.slice (some ⟨gd,0,none⟩) ds.length dc,I Z nx,.slice (some ⟨gp,0,none⟩) ps.length pc,I Z tk,.bool rc]] w (isCp w h ds nx ps tk rc):=by
 have FI0:=zH hI
 have hmk:=make_decks ds.length hld
 have F0:Hid (Blk ((w.alloc (.cells #[I Z h.fl,I Z h.gp,I Z h.ln,I Z h.rf,I Z h.sp,I Z h.pu,I Z h.br,I Z h.dr,I Z h.lv,I Z h.dO,I Z h.ld,I Z h.qu,.slice (some ⟨gd,0,none⟩) ds.length dc,I Z nx,.slice (some ⟨gp,0,none⟩) ps.length pc,I Z tk,.bool rc] 37)).alloc (.cells #[I Z 0,I Z 0,I Z 0,I Z 0,I Z 0,I Z 0,I Z 0,I Z 0,I Z 0,I Z 0,I Z 0,I Z 0,.slice none 0 0,I Z 0,.slice none 0 0,I Z 0,.bool false] 37)) w.heap.size (gvs h (.slice (some ⟨gd,0,none⟩) ds.length dc) nx (.slice (some ⟨gp,0,none⟩) ps.length pc) tk rc)):=(Blk.at_ w #[I Z h.fl,I Z h.gp,I Z h.ln,I Z h.rf,I Z h.sp,I Z h.pu,I Z h.br,I Z h.dr,I Z h.lv,I Z h.dO,I Z h.ld,I Z h.qu,.slice (some ⟨gd,0,none⟩) ds.length dc,I Z nx,.slice (some ⟨gp,0,none⟩) ps.length pc,I Z tk,.bool rc] _ _ rfl).alloc _
 have F1:Hid (Blk ((w.alloc (.cells #[I Z h.fl,I Z h.gp,I Z h.ln,I Z h.rf,I Z h.sp,I Z h.pu,I Z h.br,I Z h.dr,I Z h.lv,I Z h.dO,I Z h.ld,I Z h.qu,.slice (some ⟨gd,0,none⟩) ds.length dc,I Z nx,.slice (some ⟨gp,0,none⟩) ps.length pc,I Z tk,.bool rc] 37)).alloc (.cells #[I Z 0,I Z 0,I Z 0,I Z 0,I Z 0,I Z 0,I Z 0,I Z 0,I Z 0,I Z 0,I Z 0,I Z 0,.slice none 0 0,I Z 0,.slice none 0 0,I Z 0,.bool false] 37)) (w.heap.size + 1) (gvs zeroH (.slice none 0 0) 0 (.slice none 0 0) 0 false)):=Blk.at_ _ #[I Z 0,I Z 0,I Z 0,I Z 0,I Z 0,I Z 0,I Z 0,I Z 0,I Z 0,I Z 0,I Z 0,I Z 0,.slice none 0 0,I Z 0,.slice none 0 0,I Z 0,.bool false] _ _ (by simp)
 have FB:Hid (Below w.heap.size w ((w.alloc (.cells #[I Z h.fl,I Z h.gp,I Z h.ln,I Z h.rf,I Z h.sp,I Z h.pu,I Z h.br,I Z h.dr,I Z h.lv,I Z h.dO,I Z h.ld,I Z h.qu,.slice (some ⟨gd,0,none⟩) ds.length dc,I Z nx,.slice (some ⟨gp,0,none⟩) ps.length pc,I Z tk,.bool rc] 37)).alloc (.cells #[I Z 0,I Z 0,I Z 0,I Z 0,I Z 0,I Z 0,I Z 0,I Z 0,I Z 0,I Z 0,I Z 0,I Z 0,.slice none 0 0,I Z 0,.slice none 0 0,I Z 0,.bool false] 37))):=((Below.refl _ _).alloc (Nat.le_refl _) _).alloc (by simp) _
 have FI:Hid (GI ((w.alloc (.cells #[I Z h.fl,I Z h.gp,I Z h.ln,I Z h.rf,I Z h.sp,I Z h.pu,I Z h.br,I Z h.dr,I Z h.lv,I Z h.dO,I Z h.ld,I Z h.qu,.slice (some ⟨gd,0,none⟩) ds.length dc,I Z nx,.slice (some ⟨gp,0,none⟩) ps.length pc,I Z tk,.bool rc] 37)).alloc (.cells #[I Z 0,I Z 0,I Z 0,I Z 0,I Z 0,I Z 0,I Z 0,I Z 0,I Z 0,I Z 0,I Z 0,I Z 0,.slice none 0 0,I Z 0,.slice none 0 0,I Z 0,.bool false] 37)) gd gp ds ps):=(hI.alloc _).alloc _
 have LI:Hid (gd < w.heap.size∧gp < w.heap.size):=⟨hI.ld,hI.lp⟩
 obtain ⟨W0,hW0⟩:∃ W0,W0=((w.alloc (.cells #[I Z h.fl,I Z h.gp,I Z h.ln,I Z h.rf,I Z h.sp,I Z h.pu,I Z h.br,I Z h.dr,I Z h.lv,I Z h.dO,I Z h.ld,I Z h.qu,.slice (some ⟨gd,0,none⟩) ds.length dc,I Z nx,.slice (some ⟨gp,0,none⟩) ps.length pc,I Z tk,.bool rc] 37)).alloc (.cells #[I Z 0,I Z 0,I Z 0,I Z 0,I Z 0,I Z 0,I Z 0,I Z 0,I Z 0,I Z 0,I Z 0,I Z 0,.slice none 0 0,I Z 0,.slice none 0 0,I Z 0,.bool false] 37)):=⟨_,rfl⟩
 rw [← hW0] at F0 F1 FB FI
 have HW0:=zH hW0
 clear hW0 hI
 go_enter Tryz.func24,Tryz.ntmps24
 go_upto_region 1 with fail
 rw [← HW0.out]
 clear HW0
 have x12:=F0.out.c 12 _ rfl
 go_upto_region 2 with fail
 clear hmk x12
 obtain ⟨g1,hg1⟩:∃ b,b=W0.heap.size:=⟨_,rfl⟩
 obtain ⟨W1,hW⟩:∃ W,W=W0.alloc (.cells (madeCells (cellsD zeroD).toArray (ds.length * 13)) 73):=⟨_,rfl⟩
 have l1:=F1.out.lt
 have FD:Hid (OwD W1 (w.heap.size + 2) g1 ds.length ds.length (List.replicate ds.length zeroD)):=by rw [hW,hg1];exact own_madeD ds.length hld W0 _ (by omega)
 rw [← hg1] at l1
 have F0:Hid (Blk W1 w.heap.size (gvs h (.slice (some ⟨gd,0,none⟩) ds.length dc) nx (.slice (some ⟨gp,0,none⟩) ps.length pc) tk rc)):=by rw [hW];exact F0.out.alloc _
 have F1:Hid (Blk W1 (w.heap.size + 1) (gvs zeroH (.slice none 0 0) 0 (.slice none 0 0) 0 false)):=by rw [hW];exact F1.out.alloc _
 have FB:Hid (Below w.heap.size w W1):=by rw [hW];exact FB.out.alloc FB.out.size _
 have FI:Hid (GI W1 gd gp ds ps):=by rw [hW];exact FI.out.alloc _
 rw [← hW,← hg1]
 clear hW hg1
 have x12:=F0.out.c 12 _ rfl
 go_upto_region 3 with (refine wpList_copy_dk (w.heap.size + 2) g1 (List.replicate ds.length zeroD) ds FD.out gd 0 dc rfl rfl FI.out.d ?_;intro w1 ho hg;have NEr:Hid (∀ b,b < g1→some b ≠ some g1):=(fun b hb e=>by have e2:b=g1:=Option.some.inj e;omega);have F0:Hid (Blk w1 w.heap.size (gvs h (.slice (some ⟨gd,0,none⟩) ds.length dc) nx (.slice (some ⟨gp,0,none⟩) ps.length pc) tk rc)):=F0.out.grown hg (NEr.out _ (by omega));have F1:Hid (Blk w1 (w.heap.size + 1) (gvs zeroH (.slice none 0 0) 0 (.slice none 0 0) 0 false)):=F1.out.grown hg (NEr.out _ (by omega));have FB:Hid (Below w.heap.size w w1):=below_grown FB.out hg (fun j hj=>by have e2:g1=j:=Option.some.inj hj;omega) FB.out.size;have FD:=zH ho;clear ho hg NEr)
 clear x12
 have k12:=F0.out.c 12 _ rfl
 have f12:=F0.out.f 12 (Nat.le_of_ble_eq_true rfl)
 go_upto_region 4 with fail
 obtain ⟨W2,hw_⟩:∃ W,W=w1.setCell ⟨w.heap.size,12,none⟩ (.slice (some ⟨g1,0,none⟩) ds.length ds.length):=⟨_,rfl⟩
 rw [← hw_]
 have F0:Hid (Blk W2 w.heap.size (gvs h (.slice (some ⟨g1,0,none⟩) ds.length ds.length) nx (.slice (some ⟨gp,0,none⟩) ps.length pc) tk rc)):=by rw [hw_];exact F0.out.set _ (Nat.le_of_ble_eq_true rfl)
 have F1:Hid (Blk W2 (w.heap.size + 1) (gvs zeroH (.slice none 0 0) 0 (.slice none 0 0) 0 false)):=by rw [hw_];exact F1.out.other (by omega)
 have FD:Hid (OwD W2 (w.heap.size + 2) g1 ds.length ds.length (ds)):=by rw [hw_];exact FD.out.other (p:=⟨w.heap.size,12,none⟩) (by have:=FD.out.bl.1;show _ ≠ w.heap.size;omega) _
 have FB:Hid (Below w.heap.size w W2):=by rw [hw_];exact FB.out.setCell (by show w.heap.size≤w.heap.size;omega) _
 have FI:Hid (GI W2 gd gp ds ps):=FI0.out.below FB.out LI.out.1 LI.out.2
 clear hw_
 clear k12 f12
 have x14:=F0.out.c 14 _ rfl
 have ld:=FD.out.bl.2
 go_upto_region 5 with (go_at_call 46;refine (copied_any ps (some ⟨gp,0,none⟩) pc ps.length hlp (Nat.le_refl _) _ FI.out.pin).mono ?_;rintro e w3 ⟨g2,rfl,ho,hb⟩;rw [Nat.sub_self,List.replicate_zero,List.append_nil] at ho;have FP:Hid (Ow w3 (w.heap.size + 2) g2 ps.length ps.length ps):=ho.base (by have:=F1.out.lt;omega);have l12:g1 < g2:=Nat.lt_of_lt_of_le ld ho.bl.1;have F0:=bB F0 hb;have F1:=bB F1 hb;have FD:Hid (OwD w3 (w.heap.size + 2) g1 ds.length ds.length (ds)):=FD.out.below hb FD.out.bl.2;have FB:=tB FB hb;clear hb;clear ho;have k14:=F0.out.c 14 _ rfl;have f14:=F0.out.f 14 (Nat.le_of_ble_eq_true rfl))
 obtain ⟨W4,hw_⟩:∃ W,W=w3.setCell ⟨w.heap.size,14,none⟩ (.slice (some ⟨g2,0,none⟩) ps.length ps.length):=⟨_,rfl⟩
 rw [← hw_]
 have F0:Hid (Blk W4 w.heap.size (gvs h (.slice (some ⟨g1,0,none⟩) ds.length ds.length) nx (.slice (some ⟨g2,0,none⟩) ps.length ps.length) tk rc)):=by rw [hw_];exact F0.out.set _ (Nat.le_of_ble_eq_true rfl)
 have F1:Hid (Blk W4 (w.heap.size + 1) (gvs zeroH (.slice none 0 0) 0 (.slice none 0 0) 0 false)):=by rw [hw_];exact F1.out.other (by omega)
 have FD:Hid (OwD W4 (w.heap.size + 2) g1 ds.length ds.length (ds)):=by rw [hw_];exact FD.out.other (p:=⟨w.heap.size,14,none⟩) (by have:=FD.out.bl.1;show _ ≠ w.heap.size;omega) _
 have FP:Hid (Ow W4 (w.heap.size + 2) g2 ps.length ps.length ps):=by rw [hw_];exact FP.out.other (p:=⟨w.heap.size,14,none⟩) (by have:=FP.out.bl.1;show _ ≠ w.heap.size;omega) _
 have FB:Hid (Below w.heap.size w W4):=by rw [hw_];exact FB.out.setCell (by show w.heap.size≤w.heap.size;omega) _
 have FI:Hid (GI W4 gd gp ds ps):=FI0.out.below FB.out LI.out.1 LI.out.2
 clear hw_
 clear k14 f14 x14
 go_wp2_with (first | (refine load_blk 37 _ Tryz.underlying37 (by kernel_rfl) F0.out rfl rfl rfl ?_) | (refine store_blk (gvs h (.slice (some ⟨g1,0,none⟩) ds.length ds.length) nx (.slice (some ⟨g2,0,none⟩) ps.length ps.length) tk rc) 37 _ _ (by kernel_rfl) (by kernel_rfl) (by kernel_rfl) F1.out rfl rfl rfl rfl ?_))
 exact bodyPost_ret (v:=.agg #[I Z h.fl,I Z h.gp,I Z h.ln,I Z h.rf,I Z h.sp,I Z h.pu,I Z h.br,I Z h.dr,I Z h.lv,I Z h.dO,I Z h.ld,I Z h.qu,.slice (some ⟨g1,0,none⟩) ds.length ds.length,I Z nx,.slice (some ⟨g2,0,none⟩) ps.length ps.length,I Z tk,.bool rc]) ((F1.out.row (gvs h (.slice (some ⟨g1,0,none⟩) ds.length ds.length) nx (.slice (some ⟨g2,0,none⟩) ps.length ps.length) tk rc)).res _ Tryz.results24 Tryz.underlying37 (by kernel_rfl) rfl) rfl ⟨g1,_,g2,_,rfl,(FD.out.row (by have:=FD.out.bl.1;omega) _).base (by omega),(FP.out.row (by have:=FP.out.bl.1;omega) _).base (by omega),by omega,below_row FB.out (by omega) _⟩
end Go.Proofs.YteimojoicfjdjaaGreat
namespace Go.Proofs.YteimojoicfjdjaaGreat
open Go.RowKit Pl
set_option linter.unusedSimpArgs false
set_option linter.unusedVariables false
theorem OwnD.of{W w:World}{B:Nat}{v:Value}{l:List Dk}(h:OwnD W B v l)(hb:∀ k,v.ownBlock=some k→w.heap[k]? = W.heap[k]?):OwnD w B v l:=by
 refine ⟨h.1,?_⟩
 rcases h.2 with hn | ⟨g,cap,cur,rfl,hB,hg,rest⟩
 ·exact Or.inl hn
 ·exact Or.inr ⟨g,cap,cur,rfl,hB,(hb g rfl).trans hg,rest⟩
theorem Own.of{W w:World}{B:Nat}{v:Value}{l:List Pe}(h:Own W B v l)(hb:∀ k,v.ownBlock=some k→w.heap[k]? = W.heap[k]?):Own w B v l:=by
 refine ⟨h.1,?_⟩
 rcases h.2 with hn | ⟨g,cap,cur,rfl,hB,hg,rest⟩
 ·exact Or.inl hn
 ·exact Or.inr ⟨g,cap,cur,rfl,hB,(hb g rfl).trans hg,rest⟩
theorem Blk.turn{W w:World}{b:Nat}{vs:List Value}{u v:Value}(a:Blk W b vs)(t:Turn2 W w u v)(hu:u.ownBlock ≠ some b)(hv:v.ownBlock ≠ some b):Blk w b vs:=a.of (t.block b a.lt (fun e=>hu e.symm) (fun e=>hv e.symm))
theorem OwnD.turn{W w:World}{B:Nat}{x u v:Value}{l:List Dk}(h:OwnD W B x l)(t:Turn2 W w u v)(hu:∀ k,x.ownBlock=some k→u.ownBlock ≠ some k)(hv:∀ k,x.ownBlock=some k→v.ownBlock ≠ some k):OwnD w B x l:=
 h.of (fun k hk=>t.block k (h.lt k hk).2 (fun e=>hu k hk e.symm) (fun e=>hv k hk e.symm))
theorem Own.turn{W w:World}{B:Nat}{x u v:Value}{l:List Pe}(h:Own W B x l)(t:Turn2 W w u v)(hu:∀ k,x.ownBlock=some k→u.ownBlock ≠ some k)(hv:∀ k,x.ownBlock=some k→v.ownBlock ≠ some k):Own w B x l:=
 h.of (fun k hk=>t.block k (h.lt k hk).2 (fun e=>hu k hk e.symm) (fun e=>hv k hk e.symm))
theorem OwnD.din{w:World}{B n c:Nat}{a:Option Addr}{l:List Dk}(h:OwnD w B (.slice a n c) l):DIn w w.heap.size a l:=by
 obtain ⟨a',c',e,hd⟩:=h.pin
 injection e with e1
 subst e1
 exact hd
theorem Own.din{w:World}{B n c:Nat}{a:Option Addr}{l:List Pe}(h:Own w B (.slice a n c) l):PIn w w.heap.size a l:=by
 rcases h.cases with ⟨e,hl⟩ | ⟨g,cap,e,hB,hg,_⟩
 ·subst hl
  injection e with e1
  subst e1
  exact Or.inl rfl
 ·injection e with e1 e2 e3
  subst e1 e2 e3
  refine Or.inr ⟨g,0,rfl,hg,fun i p hp=>?_⟩
  rw [Nat.zero_add]
  exact (Own.ow h).p7 hp
theorem Own.base'{w:World}{B C:Nat}{v:Value}{l:List Pe}(h:Own w B v l)(hC:C≤B):Own w C v l:=by
 refine ⟨h.1,?_⟩
 rcases h.2 with hn | ⟨g,cap,cur,e,hB,rest⟩
 ·exact Or.inl hn
 ·exact Or.inr ⟨g,cap,cur,e,Nat.le_trans hC hB,rest⟩
theorem Turn2.below'{B:Nat}{a w w':World}{u v:Value}(k:Turn2 w w' u v)(h:Below B a w)(hu:∀ j,u.ownBlock=some j→B≤j)(hv:∀ j,v.ownBlock=some j→B≤j)(hB:B≤w.heap.size:=by omega):Below B a w':=Turn2.below h k hu hv hB
theorem load_blkg{ops:Array Oper}{rest:List Oper}{o:Oper}{act:Act}{w:World}{Q:Exit→Act→World→Prop}{b:Nat}{vs:List Value}(T:TypeId)(x:Operand){fs:Array Field}(hu:Tryz.prog.underlying T=some (.struct fs))(hi:(Tryz.prog.info? T).map (·.size)=some vs.toArray.size)(hB:Blk w b vs)
  (hw:Region.wanted o (yielded ops act.tmps)=true) (ho:o.op=.load T x) (hx:act.eval x=.pointer (some ⟨b,0,none⟩)) (h:wpList Tryz.prog ops Q rest (act.put o.dst (.agg vs.toArray)) w):wpList Tryz.prog ops Q (o :: rest) act w:=by
 obtain ⟨T',h'⟩:=hB.o
 exact wpList_step fun K hK=>by simp only [hw,if_true];exact wp_load_row T x ho b hx T' vs.toArray (0,0) (.struct fs) h' hu rfl hi (hK _ _ h)
end Go.Proofs.YteimojoicfjdjaaGreat
