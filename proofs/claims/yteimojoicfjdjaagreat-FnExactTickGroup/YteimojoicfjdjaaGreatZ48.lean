/- Parts of the proof: LedG, LedHg, LedIg, SpanO. -/
import Derived.Test.YteimojoicfjdjaaGreatZ14
import Derived.Test.YteimojoicfjdjaaGreatZ23
import Derived.Test.YteimojoicfjdjaaGreatZ29
import Derived.Test.YteimojoicfjdjaaGreatZ30
import Derived.Test.YteimojoicfjdjaaGreatZ33
import Derived.Test.YteimojoicfjdjaaGreatZ34
import Derived.Test.YteimojoicfjdjaaGreatZ35
import Derived.Test.YteimojoicfjdjaaGreatZ37
import Derived.Test.YteimojoicfjdjaaGreatZ41
import Derived.Deep.RegionHeld3
import Derived.BigGuardPart
namespace Go.Proofs.YteimojoicfjdjaaGreat
set_option maxRecDepth 20000
open Value renaming int → I
open IntKind renaming i64 → Z
open Go.RowKit Pl Sx
set_option linter.unusedSimpArgs false
set_option linter.unusedVariables false
theorem Cel.other{W:World}{b o k o':Nat}{u v:Value}(a:Cel W b o v)(hne:b ≠ k):Cel (W.setCell ⟨k,o',none⟩ u) b o v:=⟨(World.cell?_setCell_other _ _ _ _ (fun e=>hne (congrArg Addr.block e).symm)).trans a.c0⟩
theorem gr_other{a c:World}{row:Option Nat}{k o:Nat}{u:Value}(h:a.grownBy c row)(hk:a.heap.size≤k):a.grownBy (c.setCell ⟨k,o,none⟩ u) row:=
 ⟨h.os,h.tape,h.output,by simp [World.setCell];exact h.size,fun i hi hne=>(Below.heap_setCell _ _ _ _ (fun e=>by simp at e;omega)).trans (h.block i hi hne)⟩
theorem gr_putP{a c:World}{row:Option Nat}{k:Nat}(h:a.grownBy c row)(hk:a.heap.size≤k)(o:Nat)(q:Pe):a.grownBy (putP c k o q) row:=
 gr_other (gr_other (gr_other (gr_other (gr_other (gr_other (gr_other h hk) hk) hk) hk) hk) hk) hk
structure FC(w:World)(b:Nat)(x:Int):Prop where
 c0:w.cell? ⟨b,0,none⟩=some (I Z x)
 f0:w.frozen? ⟨b,0,none⟩=false
theorem FC.lt{w:World}{b:Nat}{x:Int}(a:FC w b x):b < w.heap.size:=World.block_lt_of_cell? w _ a.c0
theorem FC.below{W w:World}{b B:Nat}{x:Int}(a:FC W b x)(hb:Below B W w)(hB:b < B):FC w b x:=⟨(hb.cell (p:=⟨b,0,none⟩) hB).trans a.c0,(hb.frozen (p:=⟨b,0,none⟩) hB).trans a.f0⟩
theorem FC.alloc{W:World}{b:Nat}{x:Int}(a:FC W b x)(o:Obj):FC (W.alloc o) b x:=a.below ((Below.refl _ _).alloc (Nat.le_refl _) o) a.lt
theorem FC.at_(w:World)(x:Int)(T:TypeId)(b:Nat)(hb:b=w.heap.size):FC (w.alloc (.cells #[I Z x] T)) b x:=by
 subst hb
 constructor <;> simp
theorem FC.other{W:World}{b k o:Nat}{u:Value}{x:Int}(a:FC W b x)(hne:b ≠ k):FC (W.setCell ⟨k,o,none⟩ u) b x:=⟨(World.cell?_setCell_other _ _ _ _ (fun e=>hne (congrArg Addr.block e).symm)).trans a.c0,(World.frozen?_setCell _ _ _ _).trans a.f0⟩
theorem FC.set{W:World}{b:Nat}{x:Int}(a:FC W b x)(y:Int):FC (W.setCell ⟨b,0,none⟩ (I Z y)) b y:=⟨World.cell?_setCell_same _ _ _ a.c0,(World.frozen?_setCell _ _ _ _).trans a.f0⟩
theorem FC.putP{W:World}{b k:Nat}{x:Int}(a:FC W b x)(hne:b ≠ k)(o:Nat)(q:Pe):FC (putP W k o q) b x:=((((((a.other hne).other hne).other hne).other hne).other hne).other hne).other hne
def brdR(fre sh ca fl:Int)(p:Pe):Pe × Int:=if (0 < fre∧isW 0 sh ca p=true)∧p.fr=fl then (boardP p,fre - 1) else (p,fre)
def kW(b1 b2 b3 fb:Nat):Nat→Nat × Nat:=fun q=>cond (Nat.beq q 1099511627776) (b1,0) (cond (Nat.beq q 1099511627777) (b2,0) (cond (Nat.beq q 1099511627778) (b3,0) (fb,0)))
def kR(sh ca fl x:Int)(o:Bool):Nat→Option Row:=fun q=>cond (Nat.beq q 1099511627776) (some ([I Z sh],0)) (cond (Nat.beq q 1099511627777) (some ([I Z ca],0)) (cond (Nat.beq q 1099511627778) (some ([I Z fl],0)) (cond (Nat.beq q 2199023255552 && o) (some ([I Z x],0)) none)))
theorem kR_own{sh ca fl x:Int}{o:Bool}:∀ q,Sx.isW q=false→kR sh ca fl x o q=none:=fun q hq=>by
 have ne:∀ k,Sx.isW k=true→Nat.beq q k=false:=fun k hk=>by
  cases f:Nat.beq q k
  ·rfl
  ·have:=Nat.eq_of_beq_eq_true f;subst this;rw [hk] at hq;cases hq
 unfold kR
 rw [ne 1099511627776 (by decide),ne 1099511627777 (by decide),ne 1099511627778 (by decide),ne 2199023255552 (by decide)]
 rfl
def kD(w0:World)(b1 b2 b3 fb:Nat)(sh ca fl:Int)(o:Bool)(l1:b1 < w0.heap.size)(l2:b2 < w0.heap.size)(l3:b3 < w0.heap.size)(l0:o=true→fb < w0.heap.size)(ne:o=true→fb ≠ b1∧fb ≠ b2∧fb ≠ b3):Wd:=Wd0.wd {
 n0:=w0.heap.size
 W:=kW b1 b2 b3 fb
 J:=fun _ m w=>∃ x,(∀ q,Sx.isW q=true→m q=kR sh ca fl x o q)∧Cel w b1 0 (I Z sh)∧Cel w b2 0 (I Z ca)∧Cel w b3 0 (I Z fl)∧(o=true→FC w fb x)∧w0.grownBy w (cond o (some fb) none)
 ext:=fun _ m m' w hm ⟨x,e,r⟩=>⟨x,fun q hq=>(hm q hq).trans (e q hq),r⟩
 below:=fun _ m w w' hn hb ⟨x,e,a1,a2,a3,a0,hg⟩=>⟨x,e,a1.below hb l1,a2.below hb l2,a3.below hb l3,fun h=>(a0 h).below hb (l0 h),⟨hb.os.trans hg.os,hb.tape.trans hg.tape,hb.output.trans hg.output,Nat.le_trans hg.size hb.size,fun k hk hne=>(hb.block k hk).trans (hg.block k hk hne)⟩⟩
 cell:=fun _ m w q cs T ⟨x,e,a1,a2,a3,a0,_⟩ hq hm=>by
  rw [e q hq] at hm
  have one:∀ (b:Nat) (v:Int),b < w0.heap.size→w.cell? ⟨b,0,none⟩=some (I Z v)→kW b1 b2 b3 fb q=(b,0)→some ([Value.int .i64 v],0)=some (cs,T)→(kW b1 b2 b3 fb q).1 < w0.heap.size∧(∀ c ∈ cs,fw1 c=true∧ok1 m c)∧∀ j u,cs[j]? = some u→w.cell? ⟨(kW b1 b2 b3 fb q).1,(kW b1 b2 b3 fb q).2 + j,none⟩=some (ren1 (kW b1 b2 b3 fb) u):=fun b v hb hc hw hs=>by
   cases hs
   rw [hw]
   refine ⟨hb,fun c hc=>?_,fun j u hu=>?_⟩
   ·simp only [List.mem_cons,List.not_mem_nil,or_false] at hc;subst hc;exact ⟨rfl,trivial⟩
   ·cases j with
    | zero=>cases hu;exact hc
    | succ j=>cases hu
  unfold kR at hm
  cases e1:Nat.beq q 1099511627776 <;> rw [e1] at hm
  ·cases e2:Nat.beq q 1099511627777 <;> rw [e2] at hm
   ·cases e3:Nat.beq q 1099511627778 <;> rw [e3] at hm
    ·cases e4:Nat.beq q 2199023255552 && o <;> rw [e4] at hm
     ·cases hm
     ·have ho:=(Bool.and_eq_true_iff.1 e4).2
      exact one fb x (l0 ho) (a0 ho).c0 (by unfold kW;rw [e1,e2,e3];rfl) hm
    ·exact one b3 fl l3 a3.c0 (by unfold kW;rw [e1,e2,e3];rfl) hm
   ·exact one b2 ca l2 a2.c0 (by unfold kW;rw [e1,e2];rfl) hm
  ·exact one b1 sh l1 a1.c0 (by unfold kW;rw [e1];rfl) hm
 write:=fun _ m w q cs T j u v ⟨x,e,a1,a2,a3,a0,hg⟩ hq hm hu hk=>by
  have hne:∀ k,isRW k=false→Nat.beq q k=false:=fun k hk=>by
   cases f:Nat.beq q k
   ·rfl
   ·have:=Nat.eq_of_beq_eq_true f;subst this;rw [hk] at hq;cases hq
  have h1:=hne 1099511627776 (by decide);have h2:=hne 1099511627777 (by decide);have h3:=hne 1099511627778 (by decide)
  have hw:kW b1 b2 b3 fb q=(fb,0):=by unfold kW;rw [h1,h2,h3];rfl
  rw [e q (rw_w hq)] at hm
  unfold kR at hm
  rw [h1,h2,h3] at hm
  cases e4:Nat.beq q 2199023255552 && o <;> rw [e4] at hm
  ·cases hm
  ·obtain ⟨eq,ho⟩:=Bool.and_eq_true_iff.1 e4
   cases hm
   obtain ⟨n1,n2,n3⟩:=ne ho
   cases j with
   | succ j=>cases hu
   | zero=>
    cases hu
    cases v with
    | int k y=>
     cases k <;> first | exact Bool.noConfusion hk | skip
     rw [hw]
     have:=Nat.eq_of_beq_eq_true eq
     subst this
     refine ⟨(a0 ho).f0,y,fun z hz=>?_,a1.other n1.symm,a2.other n2.symm,a3.other n3.symm,fun _=>(a0 ho).set y,?_⟩
     ·show cond (Nat.beq z 2199023255552) _ (m z)=_
      cases ez:Nat.beq z 2199023255552
      ·refine (e z hz).trans ?_
       unfold kR;rw [ez];rfl
      ·have:=Nat.eq_of_beq_eq_true ez;subst this
       unfold kR;rw [ho];rfl
     ·rw [ho] at hg ⊢
      exact grown_trans hg ⟨rfl,rfl,rfl,by simp,fun k _ hn=>heap_setCell_other _ _ _ _ (fun e=>hn (by rw [e];rfl))⟩
    | _=>simp [sameK] at hk }
def PC(vs:List Value)(γ:List Pe)(r:Option Row)(q:Pe)(x:Int):Prop:=vs = [.agg #[I Z q.id,I Z q.fr,I Z q.tw,I Z q.sh,I Z q.ca,I Z q.st,I Z q.pl]]∧r=some ([I Z x],0)
def wIw:EntW:=⟨196,fun γ m az=>match az with
 | [.agg ⟨[I Z a,I Z b,I Z c,I Z d,I Z e,I Z f,I Z g]⟩,I Z s,I Z h,I Z k]=>some (none,.bool (isW s h k ⟨a,b,c,d,e,f,g⟩),none)
 | _=>none⟩
def cIw:Cf:=⟨[wIw],fun _ _ _=>none,false,[]⟩
theorem cIw_ok{D:Wd}(hk:∀ w w',D.n0≤w.heap.size→Below w.heap.size w w'→D.K w w':=by exact fun w w' h hb=>⟨hb.size,fun k _ hk=>hb.block k hk⟩):WOk Tryz.prog D cIw:=by
 refine ⟨fun f e he=>?_,fun f e he=>?_,fun T x i p v h=>by simp [cIw] at h,fun f e h=>by cases h⟩
 ·obtain ⟨hm,rfl⟩:e=wIw∧e.f=f:=by
   simp only [cIw,lookW] at he
   cases b:Nat.beq wIw.f f <;> rw [b] at he
   ·cases he
   ·cases he;exact ⟨rfl,Nat.eq_of_beq_eq_true b⟩
  refine ⟨rfl,?_⟩
  subst hm
  intro γ m az p v g hsp hp w1 hb1 J
  simp only [wIw] at hsp
  split at hsp
  ·simp only [Option.some.injEq,Prod.mk.injEq] at hsp
   obtain ⟨rfl,rfl,rfl⟩:=hsp
   rename_i a b c d e f g s h k
   refine (isWith_any ⟨a,b,c,d,e,f,g⟩ s h k w1).mono ?_
   rintro e' w' ⟨rfl,hb⟩
   exact ⟨rfl,D.below _ _ _ _ hb1 hb J,hk _ _ hb1 hb⟩
  ·cases hsp
 ·have hm:e=wIw:=by
   simp only [cIw,lookW] at he
   cases b:Nat.beq wIw.f f <;> rw [b] at he <;> cases he
   rfl
  subst hm
  intro γ m m' az h1
  rfl
theorem alight1_any(p:Pe)(sh ca fl:Int)(b1 b2 b3:Nat)(w:World)(C1:Hid (Cel w b1 0 (I Z sh)))(C2:Hid (Cel w b2 0 (I Z ca)))(C3:Hid (Cel w b3 0 (I Z fl))) :
  Calls Tryz.prog 205 #[.agg #[I Z p.id,I Z p.fr,I Z p.tw,I Z p.sh,I Z p.ca,I Z p.st,I Z p.pl],.pointer (some ⟨b1,0,none⟩),.pointer (some ⟨b2,0,none⟩),.pointer (some ⟨b3,0,none⟩)] w fun e w'=>e=.returned (.agg #[I Z (alightP sh ca fl p).id,I Z (alightP sh ca fl p).fr,I Z (alightP sh ca fl p).tw,I Z (alightP sh ca fl p).sh,I Z (alightP sh ca fl p).ca,I Z (alightP sh ca fl p).st,I Z (alightP sh ca fl p).pl])∧Below w.heap.size w w':=by
 have hC:WOk Tryz.prog (kD w b1 b2 b3 0 sh ca fl false C1.out.lt C2.out.lt C3.out.lt (fun h=>by cases h) (fun h=>by cases h)) cIw:=cIw_ok
 refine (runs_ok (L:=[]) (C:=cIw) mo hC Tryz.func205 (args:=[.agg #[I Z p.id,I Z p.fr,I Z p.tw,I Z p.sh,I Z p.ca,I Z p.st,I Z p.pl],.pointer (some ⟨1099511627776,0,none⟩),.pointer (some ⟨1099511627777,0,none⟩),.pointer (some ⟨1099511627778,0,none⟩)]) (m:=kR sh ca fl 0 false) (g:=[]) (Post:=(fun vs s=>PC vs s.g (s.m 1099511627776) (alightP sh ca fl p) sh)) (T:=cond (isW (1:Int) sh ca p) (cond (p.tw == fl) (PC [.agg #[I Z p.id,I Z p.fr,I Z p.tw,I Z p.sh,I Z p.ca,I Z 2,I Z fl]] ([]) (some ([I Z sh],0)) (alightP sh ca fl p) sh) (PC [.agg #[I Z p.id,I Z p.fr,I Z p.tw,I Z p.sh,I Z p.ca,I Z p.st,I Z p.pl]] ([]) (some ([I Z sh],0)) (alightP sh ca fl p) sh)) (PC [.agg #[I Z p.id,I Z p.fr,I Z p.tw,I Z p.sh,I Z p.ca,I Z p.st,I Z p.pl]] ([]) (some ([I Z sh],0)) (alightP sh ca fl p) sh)) (by kernel_rfl) ?_ w (Nat.le_refl _) kR_own ⟨0,fun _ _=>rfl,C1.out,C2.out,C3.out,(fun h=>by cases h),⟨rfl,rfl,rfl,Nat.le_refl _,fun _ _ _=>rfl⟩⟩).mono ?_
 ·refine if_b (fun q=>if_b (fun q2=>⟨?_,rfl⟩) (fun q2=>⟨?_,rfl⟩)) (fun q=>⟨?_,rfl⟩)
  ·simp [isW] at q q2
   unfold alightP;rw [if_pos ⟨q.1.2,q.2,q.1.1,q2⟩]
  ·unfold alightP;rw [if_neg (fun c=>by simp [c.2.2.2] at q2)]
  ·unfold alightP;rw [if_neg (fun c=>by simp [isW,c.1,c.2.1,c.2.2.1] at q)]
 ·rintro e w' ⟨vs,s,rfl,⟨rfl,hr⟩,⟨x,hm,a1,a2,a3,a0,hg⟩,_⟩
  exact ⟨rfl,hg.os,hg.tape,hg.output,hg.size,fun k hk=>hg.block k hk (by simp)⟩
theorem out1_any(p:Pe)(sh ca fl:Int)(b1 b2 b3:Nat)(w:World)(C1:Hid (Cel w b1 0 (I Z sh)))(C2:Hid (Cel w b2 0 (I Z ca)))(C3:Hid (Cel w b3 0 (I Z fl))) :
  Calls Tryz.prog 204 #[.agg #[I Z p.id,I Z p.fr,I Z p.tw,I Z p.sh,I Z p.ca,I Z p.st,I Z p.pl],.pointer (some ⟨b1,0,none⟩),.pointer (some ⟨b2,0,none⟩),.pointer (some ⟨b3,0,none⟩)] w fun e w'=>e=.returned (.agg #[I Z (outP sh ca fl p).id,I Z (outP sh ca fl p).fr,I Z (outP sh ca fl p).tw,I Z (outP sh ca fl p).sh,I Z (outP sh ca fl p).ca,I Z (outP sh ca fl p).st,I Z (outP sh ca fl p).pl])∧Below w.heap.size w w':=by
 have hC:WOk Tryz.prog (kD w b1 b2 b3 0 sh ca fl false C1.out.lt C2.out.lt C3.out.lt (fun h=>by cases h) (fun h=>by cases h)) cIw:=cIw_ok
 refine (runs_ok (L:=[]) (C:=cIw) mo hC Tryz.func204 (args:=[.agg #[I Z p.id,I Z p.fr,I Z p.tw,I Z p.sh,I Z p.ca,I Z p.st,I Z p.pl],.pointer (some ⟨1099511627776,0,none⟩),.pointer (some ⟨1099511627777,0,none⟩),.pointer (some ⟨1099511627778,0,none⟩)]) (m:=kR sh ca fl 0 false) (g:=[]) (Post:=(fun vs s=>PC vs s.g (s.m 1099511627776) (outP sh ca fl p) sh)) (T:=cond (isW (1:Int) sh ca p) (PC [.agg #[I Z p.id,I Z p.fr,I Z p.tw,I Z p.sh,I Z p.ca,I Z 3,I Z fl]] ([]) (some ([I Z sh],0)) (outP sh ca fl p) sh) (PC [.agg #[I Z p.id,I Z p.fr,I Z p.tw,I Z p.sh,I Z p.ca,I Z p.st,I Z p.pl]] ([]) (some ([I Z sh],0)) (outP sh ca fl p) sh)) (by kernel_rfl) ?_ w (Nat.le_refl _) kR_own ⟨0,fun _ _=>rfl,C1.out,C2.out,C3.out,(fun h=>by cases h),⟨rfl,rfl,rfl,Nat.le_refl _,fun _ _ _=>rfl⟩⟩).mono ?_
 ·refine if_b (fun q=>⟨?_,rfl⟩) (fun q=>⟨?_,rfl⟩)
  ·simp [isW] at q
   unfold outP;rw [if_pos ⟨q.1.2,q.2,q.1.1⟩]
  ·unfold outP;rw [if_neg (fun c=>by simp [isW,c.1,c.2.1,c.2.2] at q)]
 ·rintro e w' ⟨vs,s,rfl,⟨rfl,hr⟩,⟨x,hm,a1,a2,a3,a0,hg⟩,_⟩
  exact ⟨rfl,hg.os,hg.tape,hg.output,hg.size,fun k hk=>hg.block k hk (by simp)⟩
theorem board1_any(p:Pe)(fre sh ca fl:Int)(e1:-2000000≤fre)(e2:fre≤20)(fb b1 b2 b3:Nat)(m1:fb ≠ b1)(m2:fb ≠ b2)(m3:fb ≠ b3)(w:World)(C0:Hid (FC w fb fre))(C1:Hid (Cel w b1 0 (I Z sh)))(C2:Hid (Cel w b2 0 (I Z ca)))(C3:Hid (Cel w b3 0 (I Z fl))) :
  Calls Tryz.prog 206 #[.agg #[I Z p.id,I Z p.fr,I Z p.tw,I Z p.sh,I Z p.ca,I Z p.st,I Z p.pl],.pointer (some ⟨fb,0,none⟩),.pointer (some ⟨b1,0,none⟩),.pointer (some ⟨b2,0,none⟩),.pointer (some ⟨b3,0,none⟩)] w fun e w'=>e=.returned (.agg #[I Z (brdR fre sh ca fl p).1.id,I Z (brdR fre sh ca fl p).1.fr,I Z (brdR fre sh ca fl p).1.tw,I Z (brdR fre sh ca fl p).1.sh,I Z (brdR fre sh ca fl p).1.ca,I Z (brdR fre sh ca fl p).1.st,I Z (brdR fre sh ca fl p).1.pl])∧FC w' fb (brdR fre sh ca fl p).2∧w.grownBy w' (some fb):=by
 have hC:WOk Tryz.prog (kD w b1 b2 b3 fb sh ca fl true C1.out.lt C2.out.lt C3.out.lt (fun _=>C0.out.lt) (fun _=>⟨m1,m2,m3⟩)) cIw:=cIw_ok
 refine (runs_ok (L:=[]) (C:=cIw) mo hC Tryz.func206 (args:=[.agg #[I Z p.id,I Z p.fr,I Z p.tw,I Z p.sh,I Z p.ca,I Z p.st,I Z p.pl],.pointer (some ⟨2199023255552,0,none⟩),.pointer (some ⟨1099511627776,0,none⟩),.pointer (some ⟨1099511627777,0,none⟩),.pointer (some ⟨1099511627778,0,none⟩)]) (m:=kR sh ca fl fre true) (g:=[]) (Post:=(fun vs s=>PC vs s.g (s.m 2199023255552) ((brdR fre sh ca fl p).1) (brdR fre sh ca fl p).2)) (T:=cond (decide (fre > 0)) (cond (isW (0:Int) sh ca p) (cond (p.fr == fl) (PC [.agg #[I Z p.id,I Z p.fr,I Z p.tw,I Z p.sh,I Z p.ca,I Z 1,I Z p.pl]] ([]) (some ([I Z (IntKind.i64.wrap (fre - 1))],0)) ((brdR fre sh ca fl p).1) (brdR fre sh ca fl p).2) (PC [.agg #[I Z p.id,I Z p.fr,I Z p.tw,I Z p.sh,I Z p.ca,I Z p.st,I Z p.pl]] ([]) (some ([I Z fre],0)) ((brdR fre sh ca fl p).1) (brdR fre sh ca fl p).2)) (PC [.agg #[I Z p.id,I Z p.fr,I Z p.tw,I Z p.sh,I Z p.ca,I Z p.st,I Z p.pl]] ([]) (some ([I Z fre],0)) ((brdR fre sh ca fl p).1) (brdR fre sh ca fl p).2)) (PC [.agg #[I Z p.id,I Z p.fr,I Z p.tw,I Z p.sh,I Z p.ca,I Z p.st,I Z p.pl]] ([]) (some ([I Z fre],0)) ((brdR fre sh ca fl p).1) (brdR fre sh ca fl p).2)) (by kernel_rfl) ?_ w (Nat.le_refl _) kR_own ⟨fre,fun _ _=>rfl,C1.out,C2.out,C3.out,(fun _=>C0.out),⟨rfl,rfl,rfl,Nat.le_refl _,fun _ _ _=>rfl⟩⟩).mono ?_
 ·have no:(¬ ((0 < fre∧isW 0 sh ca p=true)∧p.fr=fl))→brdR fre sh ca fl p=(p,fre):=fun c=>by unfold brdR;rw [if_neg c]
  refine if_b (fun q=>if_b (fun q2=>if_b (fun q3=>?_) (fun q3=>?_)) (fun q2=>?_)) (fun q=>?_)
  ·have e:brdR fre sh ca fl p=(boardP p,fre - 1):=by unfold brdR;rw [if_pos ⟨⟨of_decide_eq_true q,q2⟩,by simpa using q3⟩]
   rw [e,IntWalk.i64_in (fre - 1) (by omega)]
   exact ⟨rfl,rfl⟩
  ·rw [no (fun c=>by simp [c.2] at q3)];exact ⟨rfl,rfl⟩
  ·rw [no (fun c=>by simp [c.1.2] at q2)];exact ⟨rfl,rfl⟩
  ·rw [no (fun c=>by simp [c.1.1] at q)];exact ⟨rfl,rfl⟩
 ·rintro e w' ⟨vs,s,rfl,⟨rfl,hr⟩,⟨x,hm,a1,a2,a3,a0,hg⟩,_⟩
  have q:some ([Value.int .i64 x],(0:Nat))=some ([Value.int .i64 (brdR fre sh ca fl p).2],0):=(hm 2199023255552 (by decide)).symm.trans hr
  simp only [Option.some.injEq,Prod.mk.injEq,List.cons.injEq,Value.int.injEq,true_and,and_true] at q
  subst q
  exact ⟨rfl,a0 rfl,hg⟩
end Go.Proofs.YteimojoicfjdjaaGreat
namespace Go.Proofs.YteimojoicfjdjaaGreat
set_option maxRecDepth 20000
set_option maxHeartbeats 16000000
open Value renaming int → I
open IntKind renaming i64 → Z
open Go.RowKit Pl
set_option linter.unusedSimpArgs false
set_option linter.unusedVariables false
theorem Cel.grown{W w:World}{b o:Nat}{v:Value}{row:Option Nat}(a:Cel W b o v)(hg:W.grownBy w row)(hne:some b ≠ row):Cel w b o v:=⟨(World.cell?_of_block (w:=W) (hg.block b a.lt hne)).trans a.c0⟩
theorem gr_put{a c:World}{g:Nat}{fb:Nat}(h:a.grownBy c (some fb))(hg:a.heap.size≤g)(o:Nat)(q:Pe):a.grownBy (putP c g o q) (some fb):=gr_putP h hg o q
theorem set_same{l:List Pe}{i:Nat}{p:Pe}(h:l[i]? = some p):l.set i p=l:=by
 apply List.ext_getElem?
 intro j
 rw [List.getElem?_set]
 by_cases e:i=j
 ·subst e
  have hi:=(List.getElem?_eq_some_iff.1 h).1
  rw [if_pos rfl,if_pos hi,h]
 ·rw [if_neg e]
theorem cnt_set{st sh ca:Int}{l:List Pe}{i:Nat}{p q:Pe}(h:l[i]? = some p)(hp:isIn st sh ca p=false)(hq:isIn st sh ca q=true):cnt st sh ca (l.set i q)=cnt st sh ca l + 1:=by
 have hi:i < l.length:=(List.getElem?_eq_some_iff.1 h).1
 have e:l[i]=p:=(List.getElem?_eq_some_iff.1 h).2
 unfold cnt
 have a1:l=l.take i ++ p :: l.drop (i + 1):=by rw [← e,← List.drop_eq_getElem_cons hi,List.take_append_drop]
 have a2:l.set i q=l.take i ++ q :: l.drop (i + 1):=by rw [List.set_eq_take_append_cons_drop,if_pos hi]
 rw [a2]
 conv=>rhs;rw [a1]
 simp [List.countP_append,List.countP_cons,hp,hq]
 omega
def isLedG(w:World)(nx:Int)(n:Nat)(l:List Pe)(e:Ending)(w':World):Prop:=∃ g c,e=.returned (.agg #[I Z 0,I Z 0,I Z nx,.slice (some ⟨g,0,none⟩) n c])∧Ow w' w.heap.size g n c l∧Below w.heap.size w w'
theorem changedG_alight(x:Lg)(a:Option Addr)(cap:Nat)(sh ca fl:Int)(b1 b2 b3:Nat)(hl:x.ps.length≤1048576)(w:World)(hP:PIn w w.heap.size a x.ps)(C1:Hid (Cel w b1 0 (I Z sh)))(C2:Hid (Cel w b2 0 (I Z ca)))(C3:Hid (Cel w b3 0 (I Z fl))) :
  Calls Tryz.prog 203 #[.agg #[I Z x.nx,.slice a x.ps.length cap],.func (.func 205) #[] #[.pointer (some ⟨b1,0,none⟩),.pointer (some ⟨b2,0,none⟩),.pointer (some ⟨b3,0,none⟩)]] w (isLedG w x.nx x.ps.length (x.ps.map (alightP sh ca fl))):=by
 have kC1:=C1.out.lt
 have kC2:=C2.out.lt
 have kC3:=C3.out.lt
 go_enter Tryz.func203,Tryz.ntmps203
 go_upto_region 1 with fail
 obtain ⟨W0,hW0⟩:∃ W0,W0=((w.alloc (.cells #[I Z x.nx,.slice a x.ps.length cap] 35)).alloc (.cells #[I Z 0,I Z 0,I Z 0,.slice none 0 0] 213)):=⟨_,rfl⟩
 have FL:Hid (LW W0 w.heap.size x.nx (.slice a x.ps.length cap)):=by rw [hW0];exact (LW.at_ w x.nx _ _ _ rfl).alloc _
 have FR:Hid (RL W0 (w.heap.size + 1)):=by rw [hW0];exact RL.at_ _ _ _ (by simp)
 have C1:Hid (Cel W0 b1 0 (I Z sh)):=by rw [hW0];exact (C1.out.alloc _).alloc _
 have C2:Hid (Cel W0 b2 0 (I Z ca)):=by rw [hW0];exact (C2.out.alloc _).alloc _
 have C3:Hid (Cel W0 b3 0 (I Z fl)):=by rw [hW0];exact (C3.out.alloc _).alloc _
 have FB:Hid (Below w.heap.size w W0):=by rw [hW0];exact ((Below.refl _ _).alloc (Nat.le_refl _) _).alloc (by simp) _
 rw [← hW0]
 clear hW0
 obtain ⟨v0,v1,v2,v3⟩:=FL.out
 go_upto_region 2 with (go_at_call 46;refine (copied_any x.ps a cap x.ps.length hl (Nat.le_refl _) _ ((hP.below FB.out (Nat.le_refl _)).mono FB.out.size)).mono ?_;rintro e w1 ⟨g,rfl,ho,hb⟩;have lgr:w.heap.size + 1 < g:=Nat.lt_of_lt_of_le FR.out.lt ho.bl.1;have FO:Hid (Ow w1 w.heap.size g x.ps.length x.ps.length x.ps):=(by have q:=ho.base FB.out.size;rw [Nat.sub_self,List.replicate_zero,List.append_nil] at q;exact q);have FL:=zH (FL.out.below hb FL.out.lt);have FR:=zH (FR.out.below hb FR.out.lt);have C1:=zH (C1.out.below hb C1.out.lt);have C2:=zH (C2.out.below hb C2.out.lt);have C3:=zH (C3.out.below hb C3.out.lt);have FB:=tB FB hb;clear ho hb;obtain ⟨v0,v1,v2,v3⟩:=FL.out)
 go_wp2_with fail
 go_loopw [16] (fun ii wr=>∃ i:Nat,ii=I Z i∧i≤x.ps.length∧Ow wr w.heap.size g x.ps.length x.ps.length ((x.ps.take i).map (alightP sh ca fl) ++ x.ps.drop i)∧LW wr w.heap.size x.nx (.slice a x.ps.length cap)∧RL wr (w.heap.size + 1)∧Cel wr b1 0 (I Z sh)∧Cel wr b2 0 (I Z ca)∧Cel wr b3 0 (I Z fl)∧Below w.heap.size w wr) (fun ii _=>x.ps.length - (intOf ii).toNat)
 case atStart=>exact ⟨0,rfl,by omega,by simpa using FO.out,FL.out,FR.out,C1.out,C2.out,C3.out,FB.out⟩
 case round=>
  obtain ⟨i,rfl,hi,hFO,hFL,hFR,hC1,hC2,hC3,hFB⟩:=hrel
  clear FO FL FR C1 C2 C3 FB
  obtain ⟨m,hm⟩:∃ m,(x.ps.take i).map (alightP sh ca fl) ++ x.ps.drop i=m:=⟨_,rfl⟩
  rw [hm] at hFO
  have HM:=zH hm
  have FO:=zH hFO
  have FL:=zH hFL
  have FR:=zH hFR
  have C1:=zH hC1
  have C2:=zH hC2
  have C3:=zH hC3
  have FB:=zH hFB
  clear hFO hFL hFR hFB hm hC1 hC2 hC3
  by_cases hlt:i < x.ps.length
  ·obtain ⟨p,hz⟩:∃ p,m[i]? = some p:=⟨_,List.getElem?_eq_getElem (by rw [FO.out.1];omega)⟩
   obtain ⟨p0,hp⟩:∃ p0,x.ps[i]? = some p0:=⟨_,List.getElem?_eq_getElem hlt⟩
   have ep:p0=p:=by
    have q:=turn_at (f:=alightP sh ca fl) hp
    rw [HM.out,hz] at q
    exact (Option.some.inj q).symm
   subst ep
   have HE:Hid (m.set i (alightP sh ca fl p0)=(x.ps.take (i + 1)).map (alightP sh ca fl) ++ x.ps.drop (i + 1)):=by rw [← HM.out];exact turn_set hp
   clear hp
   obtain ⟨d0,d1,d2,d3,d4,d5,d6⟩:=FO.out.p7 hz
   go_upto_region 5 with fail
   obtain ⟨pb,hpb⟩:∃ pb,pb=wr.heap.size:=⟨_,rfl⟩
   have lp:g < pb:=by rw [hpb];exact FO.out.bl.2
   obtain ⟨W1,hW1⟩:∃ W1,W1=wr.alloc (.cells #[I Z p0.id,I Z p0.fr,I Z p0.tw,I Z p0.sh,I Z p0.ca,I Z p0.st,I Z p0.pl] 79):=⟨_,rfl⟩
   have FO:Hid (Ow W1 w.heap.size g x.ps.length x.ps.length m):=by rw [hW1];exact FO.out.alloc _
   have FL:Hid (LW W1 w.heap.size x.nx (.slice a x.ps.length cap)):=by rw [hW1];exact FL.out.alloc _
   have FR:Hid (RL W1 (w.heap.size + 1)):=by rw [hW1];exact FR.out.alloc _
   have C1:Hid (Cel W1 b1 0 (I Z sh)):=by rw [hW1];exact C1.out.alloc _
   have C2:Hid (Cel W1 b2 0 (I Z ca)):=by rw [hW1];exact C2.out.alloc _
   have C3:Hid (Cel W1 b3 0 (I Z fl)):=by rw [hW1];exact C3.out.alloc _
   have F3:Hid (P7 W1 pb 0 p0):=by rw [hW1];exact P7.at_ wr p0 _ _ hpb
   have FB:Hid (Below w.heap.size w W1):=by rw [hW1];exact FB.out.alloc FB.out.size _
   rw [← hW1]
   clear hW1
   rw [← hpb]
   clear hpb d0 d1 d2 d3 d4 d5 d6
   obtain ⟨z0,z1,z2,z3,z4,z5,z6⟩:=F3.out
   go_wp2_with (go_at_call 205;refine (alight1_any p0 sh ca fl b1 b2 b3 _ C1 C2 C3).mono ?_;rintro e w2 ⟨rfl,hb⟩;have FL:=zH (FL.out.below hb FL.out.lt);have FR:=zH (FR.out.below hb FR.out.lt);have C1:=zH (C1.out.below hb C1.out.lt);have C2:=zH (C2.out.below hb C2.out.lt);have C3:=zH (C3.out.below hb C3.out.lt);have FO:Hid (Ow w2 w.heap.size g x.ps.length x.ps.length m):=FO.out.below hb FO.out.bl.2;have FB:=tB FB hb;clear hb;obtain ⟨d0,d1,d2,d3,d4,d5,d6⟩:=FO.out.p7 hz;have f0:=FO.out.fz (i * 7);have f1:=FO.out.fz (i * 7 + 1);have f2:=FO.out.fz (i * 7 + 2);have f3:=FO.out.fz (i * 7 + 3);have f4:=FO.out.fz (i * 7 + 4);have f5:=FO.out.fz (i * 7 + 5);have f6:=FO.out.fz (i * 7 + 6))
   go_roundw
   case rel=>exact ⟨i + 1,by simp,by omega,HE.out ▸ FO.out.put _ hz,FL.out.below (below_putP (Below.refl g _) (Nat.le_refl _) _ _) (by omega),FR.out.below (below_putP (Below.refl g _) (Nat.le_refl _) _ _) (by omega),C1.out.below (below_putP (Below.refl g _) (Nat.le_refl _) _ _) (by omega),C2.out.below (below_putP (Below.refl g _) (Nat.le_refl _) _ _) (by omega),C3.out.below (below_putP (Below.refl g _) (Nat.le_refl _) _ _) (by omega),below_putP FB.out (by omega) _ _⟩
   case measure=>simp [intOf];omega
  ·have ei:i=x.ps.length:=by omega
   subst ei
   have HM2:Hid (m=x.ps.map (alightP sh ca fl)):=by
    rw [← HM.out]
    rw [List.drop_eq_nil_of_le (by omega),List.append_nil,List.take_of_length_le (by omega)]
    exact rfl
   have FO:Hid (Ow wr w.heap.size g x.ps.length x.ps.length (x.ps.map (alightP sh ca fl))):=HM2.out ▸ FO.out
   obtain ⟨v0,v1,v2,v3⟩:=FL.out
   obtain ⟨r0,r1,r2,r3,s0,s1',s2,s3⟩:=FR.out
   go_wp2_with fail
   exact bodyPost_ret (v:=.agg #[I Z 0,I Z 0,I Z x.nx,.slice (some ⟨g,0,none⟩) x.ps.length x.ps.length]) (by simp [results,Tryz.results203,go_sem,r0,r1,r2,r3]) rfl ⟨g,_,rfl,(((FO.out.other (by simp;omega) _).other (by simp;omega) _).other (by simp;omega) _).other (by simp;omega) _,(((FB.out.setCell (by simp <;> omega) _).setCell (by simp <;> omega) _).setCell (by simp <;> omega) _).setCell (by simp <;> omega) _⟩
theorem changedG_out(x:Lg)(a:Option Addr)(cap:Nat)(sh ca fl:Int)(b1 b2 b3:Nat)(hl:x.ps.length≤1048576)(w:World)(hP:PIn w w.heap.size a x.ps)(C1:Hid (Cel w b1 0 (I Z sh)))(C2:Hid (Cel w b2 0 (I Z ca)))(C3:Hid (Cel w b3 0 (I Z fl))) :
  Calls Tryz.prog 203 #[.agg #[I Z x.nx,.slice a x.ps.length cap],.func (.func 204) #[] #[.pointer (some ⟨b1,0,none⟩),.pointer (some ⟨b2,0,none⟩),.pointer (some ⟨b3,0,none⟩)]] w (isLedG w x.nx x.ps.length (x.ps.map (outP sh ca fl))):=by
 have kC1:=C1.out.lt
 have kC2:=C2.out.lt
 have kC3:=C3.out.lt
 go_enter Tryz.func203,Tryz.ntmps203
 go_upto_region 1 with fail
 obtain ⟨W0,hW0⟩:∃ W0,W0=((w.alloc (.cells #[I Z x.nx,.slice a x.ps.length cap] 35)).alloc (.cells #[I Z 0,I Z 0,I Z 0,.slice none 0 0] 213)):=⟨_,rfl⟩
 have FL:Hid (LW W0 w.heap.size x.nx (.slice a x.ps.length cap)):=by rw [hW0];exact (LW.at_ w x.nx _ _ _ rfl).alloc _
 have FR:Hid (RL W0 (w.heap.size + 1)):=by rw [hW0];exact RL.at_ _ _ _ (by simp)
 have C1:Hid (Cel W0 b1 0 (I Z sh)):=by rw [hW0];exact (C1.out.alloc _).alloc _
 have C2:Hid (Cel W0 b2 0 (I Z ca)):=by rw [hW0];exact (C2.out.alloc _).alloc _
 have C3:Hid (Cel W0 b3 0 (I Z fl)):=by rw [hW0];exact (C3.out.alloc _).alloc _
 have FB:Hid (Below w.heap.size w W0):=by rw [hW0];exact ((Below.refl _ _).alloc (Nat.le_refl _) _).alloc (by simp) _
 rw [← hW0]
 clear hW0
 obtain ⟨v0,v1,v2,v3⟩:=FL.out
 go_upto_region 2 with (go_at_call 46;refine (copied_any x.ps a cap x.ps.length hl (Nat.le_refl _) _ ((hP.below FB.out (Nat.le_refl _)).mono FB.out.size)).mono ?_;rintro e w1 ⟨g,rfl,ho,hb⟩;have lgr:w.heap.size + 1 < g:=Nat.lt_of_lt_of_le FR.out.lt ho.bl.1;have FO:Hid (Ow w1 w.heap.size g x.ps.length x.ps.length x.ps):=(by have q:=ho.base FB.out.size;rw [Nat.sub_self,List.replicate_zero,List.append_nil] at q;exact q);have FL:=zH (FL.out.below hb FL.out.lt);have FR:=zH (FR.out.below hb FR.out.lt);have C1:=zH (C1.out.below hb C1.out.lt);have C2:=zH (C2.out.below hb C2.out.lt);have C3:=zH (C3.out.below hb C3.out.lt);have FB:=tB FB hb;clear ho hb;obtain ⟨v0,v1,v2,v3⟩:=FL.out)
 go_wp2_with fail
 go_loopw [16] (fun ii wr=>∃ i:Nat,ii=I Z i∧i≤x.ps.length∧Ow wr w.heap.size g x.ps.length x.ps.length ((x.ps.take i).map (outP sh ca fl) ++ x.ps.drop i)∧LW wr w.heap.size x.nx (.slice a x.ps.length cap)∧RL wr (w.heap.size + 1)∧Cel wr b1 0 (I Z sh)∧Cel wr b2 0 (I Z ca)∧Cel wr b3 0 (I Z fl)∧Below w.heap.size w wr) (fun ii _=>x.ps.length - (intOf ii).toNat)
 case atStart=>exact ⟨0,rfl,by omega,by simpa using FO.out,FL.out,FR.out,C1.out,C2.out,C3.out,FB.out⟩
 case round=>
  obtain ⟨i,rfl,hi,hFO,hFL,hFR,hC1,hC2,hC3,hFB⟩:=hrel
  clear FO FL FR C1 C2 C3 FB
  obtain ⟨m,hm⟩:∃ m,(x.ps.take i).map (outP sh ca fl) ++ x.ps.drop i=m:=⟨_,rfl⟩
  rw [hm] at hFO
  have HM:=zH hm
  have FO:=zH hFO
  have FL:=zH hFL
  have FR:=zH hFR
  have C1:=zH hC1
  have C2:=zH hC2
  have C3:=zH hC3
  have FB:=zH hFB
  clear hFO hFL hFR hFB hm hC1 hC2 hC3
  by_cases hlt:i < x.ps.length
  ·obtain ⟨p,hz⟩:∃ p,m[i]? = some p:=⟨_,List.getElem?_eq_getElem (by rw [FO.out.1];omega)⟩
   obtain ⟨p0,hp⟩:∃ p0,x.ps[i]? = some p0:=⟨_,List.getElem?_eq_getElem hlt⟩
   have ep:p0=p:=by
    have q:=turn_at (f:=outP sh ca fl) hp
    rw [HM.out,hz] at q
    exact (Option.some.inj q).symm
   subst ep
   have HE:Hid (m.set i (outP sh ca fl p0)=(x.ps.take (i + 1)).map (outP sh ca fl) ++ x.ps.drop (i + 1)):=by rw [← HM.out];exact turn_set hp
   clear hp
   obtain ⟨d0,d1,d2,d3,d4,d5,d6⟩:=FO.out.p7 hz
   go_upto_region 5 with fail
   obtain ⟨pb,hpb⟩:∃ pb,pb=wr.heap.size:=⟨_,rfl⟩
   have lp:g < pb:=by rw [hpb];exact FO.out.bl.2
   obtain ⟨W1,hW1⟩:∃ W1,W1=wr.alloc (.cells #[I Z p0.id,I Z p0.fr,I Z p0.tw,I Z p0.sh,I Z p0.ca,I Z p0.st,I Z p0.pl] 79):=⟨_,rfl⟩
   have FO:Hid (Ow W1 w.heap.size g x.ps.length x.ps.length m):=by rw [hW1];exact FO.out.alloc _
   have FL:Hid (LW W1 w.heap.size x.nx (.slice a x.ps.length cap)):=by rw [hW1];exact FL.out.alloc _
   have FR:Hid (RL W1 (w.heap.size + 1)):=by rw [hW1];exact FR.out.alloc _
   have C1:Hid (Cel W1 b1 0 (I Z sh)):=by rw [hW1];exact C1.out.alloc _
   have C2:Hid (Cel W1 b2 0 (I Z ca)):=by rw [hW1];exact C2.out.alloc _
   have C3:Hid (Cel W1 b3 0 (I Z fl)):=by rw [hW1];exact C3.out.alloc _
   have F3:Hid (P7 W1 pb 0 p0):=by rw [hW1];exact P7.at_ wr p0 _ _ hpb
   have FB:Hid (Below w.heap.size w W1):=by rw [hW1];exact FB.out.alloc FB.out.size _
   rw [← hW1]
   clear hW1
   rw [← hpb]
   clear hpb d0 d1 d2 d3 d4 d5 d6
   obtain ⟨z0,z1,z2,z3,z4,z5,z6⟩:=F3.out
   go_wp2_with (go_at_call 204;refine (out1_any p0 sh ca fl b1 b2 b3 _ C1 C2 C3).mono ?_;rintro e w2 ⟨rfl,hb⟩;have FL:=zH (FL.out.below hb FL.out.lt);have FR:=zH (FR.out.below hb FR.out.lt);have C1:=zH (C1.out.below hb C1.out.lt);have C2:=zH (C2.out.below hb C2.out.lt);have C3:=zH (C3.out.below hb C3.out.lt);have FO:Hid (Ow w2 w.heap.size g x.ps.length x.ps.length m):=FO.out.below hb FO.out.bl.2;have FB:=tB FB hb;clear hb;obtain ⟨d0,d1,d2,d3,d4,d5,d6⟩:=FO.out.p7 hz;have f0:=FO.out.fz (i * 7);have f1:=FO.out.fz (i * 7 + 1);have f2:=FO.out.fz (i * 7 + 2);have f3:=FO.out.fz (i * 7 + 3);have f4:=FO.out.fz (i * 7 + 4);have f5:=FO.out.fz (i * 7 + 5);have f6:=FO.out.fz (i * 7 + 6))
   go_roundw
   case rel=>exact ⟨i + 1,by simp,by omega,HE.out ▸ FO.out.put _ hz,FL.out.below (below_putP (Below.refl g _) (Nat.le_refl _) _ _) (by omega),FR.out.below (below_putP (Below.refl g _) (Nat.le_refl _) _ _) (by omega),C1.out.below (below_putP (Below.refl g _) (Nat.le_refl _) _ _) (by omega),C2.out.below (below_putP (Below.refl g _) (Nat.le_refl _) _ _) (by omega),C3.out.below (below_putP (Below.refl g _) (Nat.le_refl _) _ _) (by omega),below_putP FB.out (by omega) _ _⟩
   case measure=>simp [intOf];omega
  ·have ei:i=x.ps.length:=by omega
   subst ei
   have HM2:Hid (m=x.ps.map (outP sh ca fl)):=by
    rw [← HM.out]
    rw [List.drop_eq_nil_of_le (by omega),List.append_nil,List.take_of_length_le (by omega)]
    exact rfl
   have FO:Hid (Ow wr w.heap.size g x.ps.length x.ps.length (x.ps.map (outP sh ca fl))):=HM2.out ▸ FO.out
   obtain ⟨v0,v1,v2,v3⟩:=FL.out
   obtain ⟨r0,r1,r2,r3,s0,s1',s2,s3⟩:=FR.out
   go_wp2_with fail
   exact bodyPost_ret (v:=.agg #[I Z 0,I Z 0,I Z x.nx,.slice (some ⟨g,0,none⟩) x.ps.length x.ps.length]) (by simp [results,Tryz.results203,go_sem,r0,r1,r2,r3]) rfl ⟨g,_,rfl,(((FO.out.other (by simp;omega) _).other (by simp;omega) _).other (by simp;omega) _).other (by simp;omega) _,(((FB.out.setCell (by simp <;> omega) _).setCell (by simp <;> omega) _).setCell (by simp <;> omega) _).setCell (by simp <;> omega) _⟩
theorem brd_step{ld fre fre2 sh ca fl:Int}{l m:List Pe}{i:Nat}{p q:Pe}(s1:0≤sh)(hm:boardS ld sh ca fl l i=m)(hp:m[i]? = some p)(hf:ld - (cnt 1 sh ca m:Int)=fre)(hq:brdR fre sh ca fl p=(q,fre2)) :
  m.set i q=boardS ld sh ca fl l (i + 1)∧fre2=ld - (cnt 1 sh ca (boardS ld sh ca fl l (i + 1)):Int):=by
 rw [boardS_next hm hp]
 unfold brdR at hq
 by_cases c:(0 < fre∧isW 0 sh ca p=true)∧p.fr=fl
 ·rw [if_pos c] at hq
  obtain ⟨rfl,rfl⟩:=Prod.mk.inj hq
  have w:=c.1.2
  unfold isW at w
  simp only [Bool.and_eq_true,beq_iff_eq] at w
  have cc:(p.sh=sh∧p.ca=ca∧p.st=0∧p.fr=fl)∧(cnt 1 sh ca m:Int) < ld:=⟨⟨w.1.2,w.2,w.1.1,c.2⟩,by omega⟩
  rw [if_pos cc]
  refine ⟨rfl,?_⟩
  rw [cnt_set hp (by simp [isIn,w.1.1]) (by simp [isIn,boardP,w.1.2,w.2])]
  omega
 ·rw [if_neg c] at hq
  obtain ⟨rfl,rfl⟩:=Prod.mk.inj hq
  have cc:¬ ((p.sh=sh∧p.ca=ca∧p.st=0∧p.fr=fl)∧(cnt 1 sh ca m:Int) < ld):=by
   intro k
   refine c ⟨⟨by omega,?_⟩,k.1.2.2.2⟩
   simp [isW,k.1.1,k.1.2.1,k.1.2.2.1]
  rw [if_neg cc]
  exact ⟨set_same hp,hf.symm⟩
theorem changedG_board(x:Lg)(a:Option Addr)(cap:Nat)(ld sh ca fl:Int)(d1:0≤ld)(d2:ld≤20)(s1:0≤sh)(fb b1 b2 b3:Nat)(m1:fb ≠ b1)(m2:fb ≠ b2)(m3:fb ≠ b3)(hl:x.ps.length≤1048576)(w:World)(hP:PIn w w.heap.size a x.ps)(C0:Hid (FC w fb (ld - (cnt 1 sh ca x.ps:Int))))(C1:Hid (Cel w b1 0 (I Z sh)))(C2:Hid (Cel w b2 0 (I Z ca)))(C3:Hid (Cel w b3 0 (I Z fl))) :
  Calls Tryz.prog 203 #[.agg #[I Z x.nx,.slice a x.ps.length cap],.func (.func 206) #[] #[.pointer (some ⟨fb,0,none⟩),.pointer (some ⟨b1,0,none⟩),.pointer (some ⟨b2,0,none⟩),.pointer (some ⟨b3,0,none⟩)]] w (fun e w'=>∃ g c,e=.returned (.agg #[I Z 0,I Z 0,I Z x.nx,.slice (some ⟨g,0,none⟩) x.ps.length c])∧Ow w' w.heap.size g x.ps.length c (boardS ld sh ca fl x.ps x.ps.length)∧w.grownBy w' (some fb)):=by
 have kC1:=C1.out.lt
 have kC2:=C2.out.lt
 have kC3:=C3.out.lt
 have kC0:=C0.out.lt
 go_enter Tryz.func203,Tryz.ntmps203
 go_upto_region 1 with fail
 obtain ⟨W0,hW0⟩:∃ W0,W0=((w.alloc (.cells #[I Z x.nx,.slice a x.ps.length cap] 35)).alloc (.cells #[I Z 0,I Z 0,I Z 0,.slice none 0 0] 213)):=⟨_,rfl⟩
 have FL:Hid (LW W0 w.heap.size x.nx (.slice a x.ps.length cap)):=by rw [hW0];exact (LW.at_ w x.nx _ _ _ rfl).alloc _
 have FR:Hid (RL W0 (w.heap.size + 1)):=by rw [hW0];exact RL.at_ _ _ _ (by simp)
 have C1:Hid (Cel W0 b1 0 (I Z sh)):=by rw [hW0];exact (C1.out.alloc _).alloc _
 have C2:Hid (Cel W0 b2 0 (I Z ca)):=by rw [hW0];exact (C2.out.alloc _).alloc _
 have C3:Hid (Cel W0 b3 0 (I Z fl)):=by rw [hW0];exact (C3.out.alloc _).alloc _
 have C0:Hid (FC W0 fb (ld - (cnt 1 sh ca x.ps:Int))):=by rw [hW0];exact (C0.out.alloc _).alloc _
 have FB:Hid (Below w.heap.size w W0):=by rw [hW0];exact ((Below.refl _ _).alloc (Nat.le_refl _) _).alloc (by simp) _
 have FG:Hid (w.grownBy W0 (some fb)):=by rw [hW0];exact grown_trans (grown_new _ _ fb) (grown_new _ _ fb)
 rw [← hW0]
 clear hW0
 obtain ⟨v0,v1,v2,v3⟩:=FL.out
 go_upto_region 2 with (go_at_call 46;refine (copied_any x.ps a cap x.ps.length hl (Nat.le_refl _) _ ((hP.below FB.out (Nat.le_refl _)).mono FB.out.size)).mono ?_;rintro e w1 ⟨g,rfl,ho,hb⟩;have lgr:w.heap.size + 1 < g:=Nat.lt_of_lt_of_le FR.out.lt ho.bl.1;have FO:Hid (Ow w1 w.heap.size g x.ps.length x.ps.length x.ps):=(by have q:=ho.base FB.out.size;rw [Nat.sub_self,List.replicate_zero,List.append_nil] at q;exact q);have FL:=zH (FL.out.below hb FL.out.lt);have FR:=zH (FR.out.below hb FR.out.lt);have C1:=zH (C1.out.below hb C1.out.lt);have C2:=zH (C2.out.below hb C2.out.lt);have C3:=zH (C3.out.below hb C3.out.lt);have C0:=zH (C0.out.below hb C0.out.lt);have FB:=tB FB hb;have FG:Hid (w.grownBy w1 (some fb)):=gr_below FG.out hb;clear ho hb;obtain ⟨v0,v1,v2,v3⟩:=FL.out)
 go_wp2_with fail
 go_loopw [16] (fun ii wr=>∃ i:Nat,ii=I Z i∧i≤x.ps.length∧Ow wr w.heap.size g x.ps.length x.ps.length (boardS ld sh ca fl x.ps i)∧LW wr w.heap.size x.nx (.slice a x.ps.length cap)∧RL wr (w.heap.size + 1)∧Cel wr b1 0 (I Z sh)∧Cel wr b2 0 (I Z ca)∧Cel wr b3 0 (I Z fl)∧FC wr fb (ld - (cnt 1 sh ca (boardS ld sh ca fl x.ps i):Int))∧w.grownBy wr (some fb)) (fun ii _=>x.ps.length - (intOf ii).toNat)
 case atStart=>exact ⟨0,rfl,by omega,by exact FO.out,FL.out,FR.out,C1.out,C2.out,C3.out,C0.out,FG.out⟩
 case round=>
  obtain ⟨i,rfl,hi,hFO,hFL,hFR,hC1,hC2,hC3,hC0,hFB⟩:=hrel
  clear FO FL FR C1 C2 C3 C0 FG FB
  obtain ⟨m,hm⟩:∃ m,boardS ld sh ca fl x.ps i=m:=⟨_,rfl⟩
  rw [hm] at hFO hC0
  have HM:=zH hm
  have FO:=zH hFO
  have FL:=zH hFL
  have FR:=zH hFR
  have C1:=zH hC1
  have C2:=zH hC2
  have C3:=zH hC3
  obtain ⟨fre,hfre⟩:∃ fre,ld - (cnt 1 sh ca m:Int)=fre:=⟨_,rfl⟩
  rw [hfre] at hC0
  have HF:=zH hfre
  have C0:=zH hC0
  have hcm:cnt 1 sh ca m≤1048576:=Nat.le_trans List.countP_le_length (by rw [FO.out.1];omega)
  have fre1:-2000000≤fre∧fre≤20:=by omega
  clear hC0 hfre hcm
  have FG:=zH hFB
  clear hFO hFL hFR hFB hm hC1 hC2 hC3
  by_cases hlt:i < x.ps.length
  ·obtain ⟨p,hz⟩:∃ p,m[i]? = some p:=⟨_,List.getElem?_eq_getElem (by rw [FO.out.1];omega)⟩
   obtain ⟨q,fre2,hq⟩:∃ q fre2,brdR fre sh ca fl p=(q,fre2):=⟨_,_,rfl⟩
   have HB:=zH hq
   have HX:Hid (m.set i q=boardS ld sh ca fl x.ps (i + 1)∧fre2=ld - (cnt 1 sh ca (boardS ld sh ca fl x.ps (i + 1)):Int)):=brd_step s1 HM.out hz HF.out hq
   have HE:Hid (m.set i q=boardS ld sh ca fl x.ps (i + 1)):=HX.out.1
   have HE2:Hid (fre2=ld - (cnt 1 sh ca (boardS ld sh ca fl x.ps (i + 1)):Int)):=HX.out.2
   clear hq
   obtain ⟨d0,d1,d2,d3,d4,d5,d6⟩:=FO.out.p7 hz
   go_upto_region 5 with fail
   obtain ⟨pb,hpb⟩:∃ pb,pb=wr.heap.size:=⟨_,rfl⟩
   have lp:g < pb:=by rw [hpb];exact FO.out.bl.2
   have lc:=C0.out.lt
   rw [← hpb] at lc
   obtain ⟨W1,hW1⟩:∃ W1,W1=wr.alloc (.cells #[I Z p.id,I Z p.fr,I Z p.tw,I Z p.sh,I Z p.ca,I Z p.st,I Z p.pl] 79):=⟨_,rfl⟩
   have FO:Hid (Ow W1 w.heap.size g x.ps.length x.ps.length m):=by rw [hW1];exact FO.out.alloc _
   have FL:Hid (LW W1 w.heap.size x.nx (.slice a x.ps.length cap)):=by rw [hW1];exact FL.out.alloc _
   have FR:Hid (RL W1 (w.heap.size + 1)):=by rw [hW1];exact FR.out.alloc _
   have C1:Hid (Cel W1 b1 0 (I Z sh)):=by rw [hW1];exact C1.out.alloc _
   have C2:Hid (Cel W1 b2 0 (I Z ca)):=by rw [hW1];exact C2.out.alloc _
   have C3:Hid (Cel W1 b3 0 (I Z fl)):=by rw [hW1];exact C3.out.alloc _
   have C0:Hid (FC W1 fb fre):=by rw [hW1];exact C0.out.alloc _
   have F3:Hid (P7 W1 pb 0 p):=by rw [hW1];exact P7.at_ wr p _ _ hpb
   have FG:Hid (w.grownBy W1 (some fb)):=by rw [hW1];exact grown_trans FG.out (grown_new _ _ fb)
   rw [← hW1]
   clear hW1
   rw [← hpb]
   clear hpb d0 d1 d2 d3 d4 d5 d6
   obtain ⟨z0,z1,z2,z3,z4,z5,z6⟩:=F3.out
   go_wp2_with (go_at_call 206;refine (board1_any p fre sh ca fl fre1.1 fre1.2 fb b1 b2 b3 m1 m2 m3 _ C0 C1 C2 C3).mono ?_;rw [HB.out];rintro e w2 ⟨rfl,hc,hg⟩;have FL:Hid (LW w2 w.heap.size x.nx (.slice a x.ps.length cap)):=FL.out.grown hg (fun e=>by have e2:=Option.some.inj e;omega);have FR:Hid (RL w2 (w.heap.size + 1)):=FR.out.grown hg (fun e=>by have e2:=Option.some.inj e;omega);have C1:Hid (Cel w2 b1 0 (I Z sh)):=C1.out.grown hg (fun e=>by have e2:=Option.some.inj e;omega);have C2:Hid (Cel w2 b2 0 (I Z ca)):=C2.out.grown hg (fun e=>by have e2:=Option.some.inj e;omega);have C3:Hid (Cel w2 b3 0 (I Z fl)):=C3.out.grown hg (fun e=>by have e2:=Option.some.inj e;omega);have FO:Hid (Ow w2 w.heap.size g x.ps.length x.ps.length m):=FO.out.kept hg (fun e=>by have e2:=Option.some.inj e;omega);have C0:=zH hc;have FG:Hid (w.grownBy w2 (some fb)):=grown_trans FG.out hg;clear hg hc;obtain ⟨d0,d1,d2,d3,d4,d5,d6⟩:=FO.out.p7 hz;have f0:=FO.out.fz (i * 7);have f1:=FO.out.fz (i * 7 + 1);have f2:=FO.out.fz (i * 7 + 2);have f3:=FO.out.fz (i * 7 + 3);have f4:=FO.out.fz (i * 7 + 4);have f5:=FO.out.fz (i * 7 + 5);have f6:=FO.out.fz (i * 7 + 6))
   go_roundw
   case rel=>exact ⟨i + 1,by simp,by omega,HE.out ▸ FO.out.put _ hz,FL.out.below (below_putP (Below.refl g _) (Nat.le_refl _) _ _) (by omega),FR.out.below (below_putP (Below.refl g _) (Nat.le_refl _) _ _) (by omega),C1.out.below (below_putP (Below.refl g _) (Nat.le_refl _) _ _) (by omega),C2.out.below (below_putP (Below.refl g _) (Nat.le_refl _) _ _) (by omega),C3.out.below (below_putP (Below.refl g _) (Nat.le_refl _) _ _) (by omega),HE2.out ▸ C0.out.putP (by omega) _ _,gr_put FG.out (by omega) _ _⟩
   case measure=>simp [intOf];omega
  ·have ei:i=x.ps.length:=by omega
   subst ei
   have HM2:Hid (m=boardS ld sh ca fl x.ps x.ps.length):=by
    rw [← HM.out]
    exact rfl
   have FO:Hid (Ow wr w.heap.size g x.ps.length x.ps.length (boardS ld sh ca fl x.ps x.ps.length)):=HM2.out ▸ FO.out
   obtain ⟨v0,v1,v2,v3⟩:=FL.out
   obtain ⟨r0,r1,r2,r3,s0,s1',s2,s3⟩:=FR.out
   go_wp2_with fail
   exact bodyPost_ret (v:=.agg #[I Z 0,I Z 0,I Z x.nx,.slice (some ⟨g,0,none⟩) x.ps.length x.ps.length]) (by simp [results,Tryz.results203,go_sem,r0,r1,r2,r3]) rfl ⟨g,_,rfl,(((FO.out.other (by simp;omega) _).other (by simp;omega) _).other (by simp;omega) _).other (by simp;omega) _,gr_other (gr_other (gr_other (gr_other FG.out (by omega)) (by omega)) (by omega)) (by omega)⟩
set_option linter.unusedSimpArgs false
set_option linter.unusedVariables false
theorem askd_led{h:Hs}{x:Lg}{sh ca fl:Int}(hk:Hs.askd h x sh ca fl=0):Hs.led h x=0:=by
 unfold Hs.askd at hk
 split at hk
 ·assumption
 ·exact hk
theorem askd_car{h:Hs}{x:Lg}{sh ca fl:Int}(hk:Hs.askd h x sh ca fl=0):0≤sh∧sh≤2∧0≤ca∧ca≤1:=by
 unfold Hs.askd at hk
 split at hk
 case isFalse q=>exact absurd hk q
 split at hk
 case isFalse=>omega
 case isTrue q=>
  have:=q.1
  unfold carB at this
  simp only [Bool.and_eq_true,inB_iff] at this
  exact ⟨this.1.1,this.1.2,this.2.1,this.2.2⟩
theorem implAlightAt_g(h:Hs)(x:Lg)(sh ca fl:Int)(b o cap:Nat)(hl:x.ps.length≤1048576)(hk:(Hs.askd h x sh ca fl)=0)(w:World)(hb:b < w.heap.size)(hP:∀ i p,x.ps[i]? = some p→P7 w b (o + i * 7) p) :
  Calls Tryz.prog 187 #[.agg #[I Z h.fl,I Z h.gp,I Z h.ln,I Z h.rf,I Z h.sp,I Z h.pu,I Z h.br,I Z h.dr,I Z h.lv,I Z h.dO,I Z h.ld,I Z h.qu],.agg #[I Z x.nx,.slice (some ⟨b,o,none⟩) x.ps.length cap],I Z sh,I Z ca,I Z fl] w (isLedG w x.nx x.ps.length (x.ps.map (alightP sh ca fl))):=by
 have HP:Hid (PIn w w.heap.size (some ⟨b,o,none⟩) x.ps):=Or.inr ⟨b,o,rfl,hb,hP⟩
 clear hP hb
 go_enter Tryz.func187,Tryz.ntmps187
 go_upto_region 1 with fail
 obtain ⟨W0,hW0⟩:∃ W0,W0=((((((w.alloc (.cells #[I Z h.fl,I Z h.gp,I Z h.ln,I Z h.rf,I Z h.sp,I Z h.pu,I Z h.br,I Z h.dr,I Z h.lv,I Z h.dO,I Z h.ld,I Z h.qu] 31)).alloc (.cells #[I Z x.nx,.slice (some ⟨b,o,none⟩) x.ps.length cap] 35)).alloc (.cells #[I Z sh] 2)).alloc (.cells #[I Z ca] 2)).alloc (.cells #[I Z fl] 2)).alloc (.cells #[I Z 0,I Z 0,I Z 0,.slice none 0 0] 213)):=⟨_,rfl⟩
 have F0:Hid (HAt W0 w.heap.size h):=by rw [hW0];exact (((((HAt.at_ w h _ _ rfl).alloc _).alloc _).alloc _).alloc _).alloc _
 have F1:Hid (LW W0 (w.heap.size + 1) x.nx (.slice (some ⟨b,o,none⟩) x.ps.length cap)):=by rw [hW0];exact ((((LW.at_ _ x.nx (.slice (some ⟨b,o,none⟩) x.ps.length cap) _ _ (by simp)).alloc _).alloc _).alloc _).alloc _
 have C1:Hid (FC W0 (w.heap.size + 2) sh):=by rw [hW0];exact (((FC.at_ _ sh _ _ (by simp)).alloc _).alloc _).alloc _
 have C2:Hid (FC W0 (w.heap.size + 3) ca):=by rw [hW0];exact ((FC.at_ _ ca _ _ (by simp)).alloc _).alloc _
 have C3:Hid (FC W0 (w.heap.size + 4) fl):=by rw [hW0];exact (FC.at_ _ fl _ _ (by simp)).alloc _
 have FR:Hid (RL W0 (w.heap.size + 5)):=by rw [hW0];exact RL.at_ _ _ _ (by simp)
 have FB:Hid (Below w.heap.size w W0):=by rw [hW0];exact ((((((Below.refl _ _).alloc (Nat.le_refl _) _).alloc (by simp) _).alloc (by simp;omega) _).alloc (by simp;omega) _).alloc (by simp;omega) _).alloc (by simp;omega) _
 have HP:Hid (PIn W0 w.heap.size (some ⟨b,o,none⟩) x.ps):=HP.out.below FB.out (Nat.le_refl _)
 rw [← hW0]
 clear hW0
 obtain ⟨x0_0,x0_1,x0_2,x0_3,x0_4,x0_5,x0_6,x0_7,x0_8,x0_9,x0_10,x0_11⟩:=F0.out
 obtain ⟨x1_0,x1_1,y1_0,y1_1⟩:=F1.out
 have c1:=C1.out.c0
 have c2:=C2.out.c0
 have c3:=C3.out.c0
 go_wp2_with (first | (go_at_call 202;refine (askedStopFault_any h x sh ca fl (some ⟨b,o,none⟩) cap hl _ (HP.out.mono FB.out.size)).mono ?_;rw [hk];rintro e w1 ⟨rfl,hb⟩;have F0:=zH (F0.out.below hb F0.out.lt);have F1:=zH (F1.out.below hb F1.out.lt);have C1:=zH (C1.out.below hb C1.out.lt);have C2:=zH (C2.out.below hb C2.out.lt);have C3:=zH (C3.out.below hb C3.out.lt);have FR:=zH (FR.out.below hb FR.out.lt);have HP:Hid (PIn w1 w.heap.size (some ⟨b,o,none⟩) x.ps):=HP.out.below (hb.mono FB.out.size) (Nat.le_refl _);have FB:=tB FB hb;clear hb;obtain ⟨x0_0,x0_1,x0_2,x0_3,x0_4,x0_5,x0_6,x0_7,x0_8,x0_9,x0_10,x0_11⟩:=F0.out;obtain ⟨x1_0,x1_1,y1_0,y1_1⟩:=F1.out;have c1:=C1.out.c0;have c2:=C2.out.c0;have c3:=C3.out.c0) | (go_at_call 203;refine (changedG_alight x (some ⟨b,o,none⟩) cap sh ca fl _ _ _ hl _ (HP.out.mono FB.out.size) ⟨C1.out.c0⟩ ⟨C2.out.c0⟩ ⟨C3.out.c0⟩).mono ?_;rintro e w2 ⟨g,rc,rfl,ho,hb⟩;have lr:=FR.out.lt;have FO:=zH (ho.base FB.out.size);have NE:g ≠ w.heap.size + 5:=(by have:=ho.bl.1;omega);have FR:=zH (FR.out.below hb FR.out.lt);have FB:=tB FB hb;clear hb ho;obtain ⟨r0,r1,r2,r3,s0,s1,s2,s3⟩:=FR.out))
 exact bodyPost_ret (v:=.agg #[I Z 0,I Z 0,I Z x.nx,.slice (some ⟨g,0,none⟩) x.ps.length rc]) (by simp [results,Tryz.results187,go_sem,r0,r1,r2,r3]) rfl ⟨g,rc,rfl,FO.out.putR NE 0 0 x.nx _,(((FB.out.setCell (by simp <;> omega) _).setCell (by simp <;> omega) _).setCell (by simp <;> omega) _).setCell (by simp <;> omega) _⟩
theorem implLetOut_g(h:Hs)(x:Lg)(sh ca fl:Int)(b o cap:Nat)(hl:x.ps.length≤1048576)(hk:(Hs.askd h x sh ca fl)=0)(w:World)(hb:b < w.heap.size)(hP:∀ i p,x.ps[i]? = some p→P7 w b (o + i * 7) p) :
  Calls Tryz.prog 186 #[.agg #[I Z h.fl,I Z h.gp,I Z h.ln,I Z h.rf,I Z h.sp,I Z h.pu,I Z h.br,I Z h.dr,I Z h.lv,I Z h.dO,I Z h.ld,I Z h.qu],.agg #[I Z x.nx,.slice (some ⟨b,o,none⟩) x.ps.length cap],I Z sh,I Z ca,I Z fl] w (isLedG w x.nx x.ps.length (x.ps.map (outP sh ca fl))):=by
 have HP:Hid (PIn w w.heap.size (some ⟨b,o,none⟩) x.ps):=Or.inr ⟨b,o,rfl,hb,hP⟩
 clear hP hb
 go_enter Tryz.func186,Tryz.ntmps186
 go_upto_region 1 with fail
 obtain ⟨W0,hW0⟩:∃ W0,W0=((((((w.alloc (.cells #[I Z h.fl,I Z h.gp,I Z h.ln,I Z h.rf,I Z h.sp,I Z h.pu,I Z h.br,I Z h.dr,I Z h.lv,I Z h.dO,I Z h.ld,I Z h.qu] 31)).alloc (.cells #[I Z x.nx,.slice (some ⟨b,o,none⟩) x.ps.length cap] 35)).alloc (.cells #[I Z sh] 2)).alloc (.cells #[I Z ca] 2)).alloc (.cells #[I Z fl] 2)).alloc (.cells #[I Z 0,I Z 0,I Z 0,.slice none 0 0] 213)):=⟨_,rfl⟩
 have F0:Hid (HAt W0 w.heap.size h):=by rw [hW0];exact (((((HAt.at_ w h _ _ rfl).alloc _).alloc _).alloc _).alloc _).alloc _
 have F1:Hid (LW W0 (w.heap.size + 1) x.nx (.slice (some ⟨b,o,none⟩) x.ps.length cap)):=by rw [hW0];exact ((((LW.at_ _ x.nx (.slice (some ⟨b,o,none⟩) x.ps.length cap) _ _ (by simp)).alloc _).alloc _).alloc _).alloc _
 have C1:Hid (FC W0 (w.heap.size + 2) sh):=by rw [hW0];exact (((FC.at_ _ sh _ _ (by simp)).alloc _).alloc _).alloc _
 have C2:Hid (FC W0 (w.heap.size + 3) ca):=by rw [hW0];exact ((FC.at_ _ ca _ _ (by simp)).alloc _).alloc _
 have C3:Hid (FC W0 (w.heap.size + 4) fl):=by rw [hW0];exact (FC.at_ _ fl _ _ (by simp)).alloc _
 have FR:Hid (RL W0 (w.heap.size + 5)):=by rw [hW0];exact RL.at_ _ _ _ (by simp)
 have FB:Hid (Below w.heap.size w W0):=by rw [hW0];exact ((((((Below.refl _ _).alloc (Nat.le_refl _) _).alloc (by simp) _).alloc (by simp;omega) _).alloc (by simp;omega) _).alloc (by simp;omega) _).alloc (by simp;omega) _
 have HP:Hid (PIn W0 w.heap.size (some ⟨b,o,none⟩) x.ps):=HP.out.below FB.out (Nat.le_refl _)
 rw [← hW0]
 clear hW0
 obtain ⟨x0_0,x0_1,x0_2,x0_3,x0_4,x0_5,x0_6,x0_7,x0_8,x0_9,x0_10,x0_11⟩:=F0.out
 obtain ⟨x1_0,x1_1,y1_0,y1_1⟩:=F1.out
 have c1:=C1.out.c0
 have c2:=C2.out.c0
 have c3:=C3.out.c0
 go_wp2_with (first | (go_at_call 202;refine (askedStopFault_any h x sh ca fl (some ⟨b,o,none⟩) cap hl _ (HP.out.mono FB.out.size)).mono ?_;rw [hk];rintro e w1 ⟨rfl,hb⟩;have F0:=zH (F0.out.below hb F0.out.lt);have F1:=zH (F1.out.below hb F1.out.lt);have C1:=zH (C1.out.below hb C1.out.lt);have C2:=zH (C2.out.below hb C2.out.lt);have C3:=zH (C3.out.below hb C3.out.lt);have FR:=zH (FR.out.below hb FR.out.lt);have HP:Hid (PIn w1 w.heap.size (some ⟨b,o,none⟩) x.ps):=HP.out.below (hb.mono FB.out.size) (Nat.le_refl _);have FB:=tB FB hb;clear hb;obtain ⟨x0_0,x0_1,x0_2,x0_3,x0_4,x0_5,x0_6,x0_7,x0_8,x0_9,x0_10,x0_11⟩:=F0.out;obtain ⟨x1_0,x1_1,y1_0,y1_1⟩:=F1.out;have c1:=C1.out.c0;have c2:=C2.out.c0;have c3:=C3.out.c0) | (go_at_call 203;refine (changedG_out x (some ⟨b,o,none⟩) cap sh ca fl _ _ _ hl _ (HP.out.mono FB.out.size) ⟨C1.out.c0⟩ ⟨C2.out.c0⟩ ⟨C3.out.c0⟩).mono ?_;rintro e w2 ⟨g,rc,rfl,ho,hb⟩;have lr:=FR.out.lt;have FO:=zH (ho.base FB.out.size);have NE:g ≠ w.heap.size + 5:=(by have:=ho.bl.1;omega);have FR:=zH (FR.out.below hb FR.out.lt);have FB:=tB FB hb;clear hb ho;obtain ⟨r0,r1,r2,r3,s0,s1,s2,s3⟩:=FR.out))
 exact bodyPost_ret (v:=.agg #[I Z 0,I Z 0,I Z x.nx,.slice (some ⟨g,0,none⟩) x.ps.length rc]) (by simp [results,Tryz.results186,go_sem,r0,r1,r2,r3]) rfl ⟨g,rc,rfl,FO.out.putR NE 0 0 x.nx _,(((FB.out.setCell (by simp <;> omega) _).setCell (by simp <;> omega) _).setCell (by simp <;> omega) _).setCell (by simp <;> omega) _⟩
theorem implBoardAt_g(h:Hs)(x:Lg)(sh ca fl:Int)(b o cap:Nat)(hl:x.ps.length≤1048576)(hk:(Hs.askd h x sh ca fl)=0)(w:World)(hb:b < w.heap.size)(hP:∀ i p,x.ps[i]? = some p→P7 w b (o + i * 7) p) :
  Calls Tryz.prog 188 #[.agg #[I Z h.fl,I Z h.gp,I Z h.ln,I Z h.rf,I Z h.sp,I Z h.pu,I Z h.br,I Z h.dr,I Z h.lv,I Z h.dO,I Z h.ld,I Z h.qu],.agg #[I Z x.nx,.slice (some ⟨b,o,none⟩) x.ps.length cap],I Z sh,I Z ca,I Z fl] w (isLedG w x.nx x.ps.length (boardS h.ld sh ca fl x.ps x.ps.length)):=by
 have HP:Hid (PIn w w.heap.size (some ⟨b,o,none⟩) x.ps):=Or.inr ⟨b,o,rfl,hb,hP⟩
 clear hP hb
 have oo:=led_fl (askd_led hk)
 have d1:=oo.ld1;have d2:=oo.ld2
 have s1:0≤sh:=(askd_car hk).1
 have HRC:Hid (h.ld - ((riders sh ca x.ps).length:Int)=(h.ld - (cnt 1 sh ca x.ps:Int))):=by rw [riders_cnt s1];exact rfl
 clear oo
 go_enter Tryz.func188,Tryz.ntmps188
 go_upto_region 1 with fail
 obtain ⟨W0,hW0⟩:∃ W0,W0=((((((w.alloc (.cells #[I Z h.fl,I Z h.gp,I Z h.ln,I Z h.rf,I Z h.sp,I Z h.pu,I Z h.br,I Z h.dr,I Z h.lv,I Z h.dO,I Z h.ld,I Z h.qu] 31)).alloc (.cells #[I Z x.nx,.slice (some ⟨b,o,none⟩) x.ps.length cap] 35)).alloc (.cells #[I Z sh] 2)).alloc (.cells #[I Z ca] 2)).alloc (.cells #[I Z fl] 2)).alloc (.cells #[I Z 0,I Z 0,I Z 0,.slice none 0 0] 213)):=⟨_,rfl⟩
 have F0:Hid (HAt W0 w.heap.size h):=by rw [hW0];exact (((((HAt.at_ w h _ _ rfl).alloc _).alloc _).alloc _).alloc _).alloc _
 have F1:Hid (LW W0 (w.heap.size + 1) x.nx (.slice (some ⟨b,o,none⟩) x.ps.length cap)):=by rw [hW0];exact ((((LW.at_ _ x.nx (.slice (some ⟨b,o,none⟩) x.ps.length cap) _ _ (by simp)).alloc _).alloc _).alloc _).alloc _
 have C1:Hid (FC W0 (w.heap.size + 2) sh):=by rw [hW0];exact (((FC.at_ _ sh _ _ (by simp)).alloc _).alloc _).alloc _
 have C2:Hid (FC W0 (w.heap.size + 3) ca):=by rw [hW0];exact ((FC.at_ _ ca _ _ (by simp)).alloc _).alloc _
 have C3:Hid (FC W0 (w.heap.size + 4) fl):=by rw [hW0];exact (FC.at_ _ fl _ _ (by simp)).alloc _
 have FR:Hid (RL W0 (w.heap.size + 5)):=by rw [hW0];exact RL.at_ _ _ _ (by simp)
 have FB:Hid (Below w.heap.size w W0):=by rw [hW0];exact ((((((Below.refl _ _).alloc (Nat.le_refl _) _).alloc (by simp) _).alloc (by simp;omega) _).alloc (by simp;omega) _).alloc (by simp;omega) _).alloc (by simp;omega) _
 have HP:Hid (PIn W0 w.heap.size (some ⟨b,o,none⟩) x.ps):=HP.out.below FB.out (Nat.le_refl _)
 rw [← hW0]
 clear hW0
 obtain ⟨x0_0,x0_1,x0_2,x0_3,x0_4,x0_5,x0_6,x0_7,x0_8,x0_9,x0_10,x0_11⟩:=F0.out
 obtain ⟨x1_0,x1_1,y1_0,y1_1⟩:=F1.out
 have c1:=C1.out.c0
 have c2:=C2.out.c0
 have c3:=C3.out.c0
 go_upto_region 5 with (first | (go_at_call 202;refine (askedStopFault_any h x sh ca fl (some ⟨b,o,none⟩) cap hl _ (HP.out.mono FB.out.size)).mono ?_;rw [hk];rintro e w1 ⟨rfl,hb⟩;have F0:=zH (F0.out.below hb F0.out.lt);have F1:=zH (F1.out.below hb F1.out.lt);have C1:=zH (C1.out.below hb C1.out.lt);have C2:=zH (C2.out.below hb C2.out.lt);have C3:=zH (C3.out.below hb C3.out.lt);have FR:=zH (FR.out.below hb FR.out.lt);have HP:Hid (PIn w1 w.heap.size (some ⟨b,o,none⟩) x.ps):=HP.out.below (hb.mono FB.out.size) (Nat.le_refl _);have FB:=tB FB hb;clear hb;obtain ⟨x0_0,x0_1,x0_2,x0_3,x0_4,x0_5,x0_6,x0_7,x0_8,x0_9,x0_10,x0_11⟩:=F0.out;obtain ⟨x1_0,x1_1,y1_0,y1_1⟩:=F1.out;have c1:=C1.out.c0;have c2:=C2.out.c0;have c3:=C3.out.c0) | (go_at_call 195;refine (freePlaces_any h (by omega) d2 x.ps (some ⟨b,o,none⟩) cap sh ca hl _ (HP.out.mono FB.out.size)).mono ?_;rw [HRC.out];rintro e w2 ⟨rfl,hb⟩;have F0:=zH (F0.out.below hb F0.out.lt);have F1:=zH (F1.out.below hb F1.out.lt);have C1:=zH (C1.out.below hb C1.out.lt);have C2:=zH (C2.out.below hb C2.out.lt);have C3:=zH (C3.out.below hb C3.out.lt);have FR:=zH (FR.out.below hb FR.out.lt);have HP:Hid (PIn w2 w.heap.size (some ⟨b,o,none⟩) x.ps):=HP.out.below (hb.mono FB.out.size) (Nat.le_refl _);have FB:=tB FB hb;clear hb;obtain ⟨x0_0,x0_1,x0_2,x0_3,x0_4,x0_5,x0_6,x0_7,x0_8,x0_9,x0_10,x0_11⟩:=F0.out;obtain ⟨x1_0,x1_1,y1_0,y1_1⟩:=F1.out;have c1:=C1.out.c0;have c2:=C2.out.c0;have c3:=C3.out.c0))
 obtain ⟨fb,hfb⟩:∃ fb,fb=w2.heap.size:=⟨_,rfl⟩
 have lfb:w.heap.size + 5 < fb:=by rw [hfb];exact FR.out.lt
 obtain ⟨w3,hw3⟩:∃ w3,w3=w2.alloc (.cells #[I Z (h.ld - (cnt 1 sh ca x.ps:Int))] 2):=⟨_,rfl⟩
 have HP:Hid (PIn w3 w.heap.size (some ⟨b,o,none⟩) x.ps):=by rw [hw3];exact HP.out.below ((Below.refl w.heap.size w2).alloc FB.out.size _) (Nat.le_refl _)
 have F0:Hid (HAt w3 w.heap.size h):=by rw [hw3];exact F0.out.alloc _
 have F1:Hid (LW w3 (w.heap.size + 1) x.nx (.slice (some ⟨b,o,none⟩) x.ps.length cap)):=by rw [hw3];exact F1.out.alloc _
 have C1:Hid (FC w3 (w.heap.size + 2) sh):=by rw [hw3];exact C1.out.alloc _
 have C2:Hid (FC w3 (w.heap.size + 3) ca):=by rw [hw3];exact C2.out.alloc _
 have C3:Hid (FC w3 (w.heap.size + 4) fl):=by rw [hw3];exact C3.out.alloc _
 have FR:Hid (RL w3 (w.heap.size + 5)):=by rw [hw3];exact FR.out.alloc _
 have C0:Hid (FC w3 fb (h.ld - (cnt 1 sh ca x.ps:Int))):=by rw [hw3];exact FC.at_ w2 (h.ld - (cnt 1 sh ca x.ps:Int)) _ _ hfb
 have FB:Hid (Below w.heap.size w w3):=by rw [hw3];exact FB.out.alloc FB.out.size _
 rw [← hw3]
 clear hw3
 rw [← hfb]
 clear hfb
 obtain ⟨x0_0,x0_1,x0_2,x0_3,x0_4,x0_5,x0_6,x0_7,x0_8,x0_9,x0_10,x0_11⟩:=F0.out
 obtain ⟨x1_0,x1_1,y1_0,y1_1⟩:=F1.out
 have c1:=C1.out.c0
 have c2:=C2.out.c0
 have c3:=C3.out.c0
 go_wp2_with (go_at_call 203;refine (changedG_board x (some ⟨b,o,none⟩) cap h.ld sh ca fl (by omega) d2 s1 fb _ _ _ (by omega) (by omega) (by omega) hl _ (HP.out.mono FB.out.size) C0 ⟨C1.out.c0⟩ ⟨C2.out.c0⟩ ⟨C3.out.c0⟩).mono ?_;rintro e w4 ⟨g,rc,rfl,ho,hg⟩;have lr:=FR.out.lt;have FO:=zH (ho.base FB.out.size);have NE:g ≠ w.heap.size + 5:=(by have:=ho.bl.1;omega);have FR:Hid (RL w4 (w.heap.size + 5)):=FR.out.grown hg (fun e=>by have e2:=Option.some.inj e;omega);have FB:Hid (Below w.heap.size w w4):=FB.out.grown hg FB.out.size (fun j hj=>by have e2:=Option.some.inj hj;omega);clear hg ho;obtain ⟨r0,r1,r2,r3,s0,s1,s2,s3⟩:=FR.out)
 exact bodyPost_ret (v:=.agg #[I Z 0,I Z 0,I Z x.nx,.slice (some ⟨g,0,none⟩) x.ps.length rc]) (by simp [results,Tryz.results188,go_sem,r0,r1,r2,r3]) rfl ⟨g,rc,rfl,FO.out.putR NE 0 0 x.nx _,(((FB.out.setCell (by simp <;> omega) _).setCell (by simp <;> omega) _).setCell (by simp <;> omega) _).setCell (by simp <;> omega) _⟩
end Go.Proofs.YteimojoicfjdjaaGreat
namespace Go.Proofs.YteimojoicfjdjaaGreat
set_option maxRecDepth 20000
set_option maxHeartbeats 16000000
open Value renaming int → I
open IntKind renaming i64 → Z
open Go.RowKit Pl Go.Maps
set_option linter.unusedSimpArgs false
set_option linter.unusedVariables false
theorem RSps.drew{W:World}{b:Nat}(a:RSps W b):RSps W.drew b:=a.below (Below.refl W.heap.size W).drew a.lt
theorem giveBack_below(b n B:Nat)(S:Int→Option Int)(cv:Ss)(hS:∀ f c,S f=some c→-1≤f∧f≤1000)(hc:∀ f c,S f=some c→c=0 ∨ c=1)(hB:B≤b)(w:World)(hm:Held w b n S) :
  Calls Tryz.prog 151 #[.map (some b),.agg #[I Z cv.l.lo,I Z cv.l.hi,I Z cv.u.lo,I Z cv.u.hi]] w fun e w'=>e=.returned (.tuple #[])∧Held w' b n (cutM S cv)∧Below B w w':=by
 refine (giveBack_any b n S cv hS hc w hm).mono ?_
 rintro e w' ⟨h1,h2,h3⟩
 have hl:=hm.lt
 exact ⟨h1,h2,(Below.refl B w).grown h3 (by omega) (fun k hk=>by cases hk;exact hB)⟩
theorem upS_bd{x:Ss}{z:Int}(l1:-1≤x.l.lo)(k:x.l.hi < x.u.lo)(l2:x.l.lo≤x.l.hi)(u2:z≤900)(h2:x.l.hi≤900):∀ f c,upS x z f=some c→-1≤f∧f≤1000:=by
 intro f c h
 unfold upS at h
 split at h
 ·omega
 ·split at h
  ·omega
  ·cases h
theorem implReleaseSpans_ok(h:Hs)(x:Ss)(s:Sh)(hf:Hs.spans h x=0)(hs:h.shaft s=0)(w:World) :
  Calls Tryz.prog 95 #[.agg #[I Z h.fl,I Z h.gp,I Z h.ln,I Z h.rf,I Z h.sp,I Z h.pu,I Z h.br,I Z h.dr,I Z h.lv,I Z h.dO,I Z h.ld,I Z h.qu],.agg #[I Z x.l.lo,I Z x.l.hi,I Z x.u.lo,I Z x.u.hi],.agg #[I Z s.lo.pos,I Z s.lo.vel,I Z s.lo.door,I Z s.up.pos,I Z s.up.vel,I Z s.up.door]] w (isSps w 0 (Hs.relS h x s)):=by
 have F0:Hid (HAt ((((w.alloc (.cells #[I Z h.fl,I Z h.gp,I Z h.ln,I Z h.rf,I Z h.sp,I Z h.pu,I Z h.br,I Z h.dr,I Z h.lv,I Z h.dO,I Z h.ld,I Z h.qu] 31)).alloc (.cells #[I Z x.l.lo,I Z x.l.hi,I Z x.u.lo,I Z x.u.hi] 71)).alloc (.cells #[I Z s.lo.pos,I Z s.lo.vel,I Z s.lo.door,I Z s.up.pos,I Z s.up.vel,I Z s.up.door] 67)).alloc (.cells #[I Z 0,I Z 0,I Z 0,I Z 0,I Z 0] 151)).drew w.heap.size h):=((((HAt.at_ w h _ _ (by simp)).alloc _).alloc _).alloc _).drew
 have F1:Hid (NW ((((w.alloc (.cells #[I Z h.fl,I Z h.gp,I Z h.ln,I Z h.rf,I Z h.sp,I Z h.pu,I Z h.br,I Z h.dr,I Z h.lv,I Z h.dO,I Z h.ld,I Z h.qu] 31)).alloc (.cells #[I Z x.l.lo,I Z x.l.hi,I Z x.u.lo,I Z x.u.hi] 71)).alloc (.cells #[I Z s.lo.pos,I Z s.lo.vel,I Z s.lo.door,I Z s.up.pos,I Z s.up.vel,I Z s.up.door] 67)).alloc (.cells #[I Z 0,I Z 0,I Z 0,I Z 0,I Z 0] 151)).drew (w.heap.size + 1) x):=(((NW.at_ (w.alloc (.cells #[I Z h.fl,I Z h.gp,I Z h.ln,I Z h.rf,I Z h.sp,I Z h.pu,I Z h.br,I Z h.dr,I Z h.lv,I Z h.dO,I Z h.ld,I Z h.qu] 31)) x _ _ (by simp)).alloc _).alloc _).drew
 have F2:Hid (SW ((((w.alloc (.cells #[I Z h.fl,I Z h.gp,I Z h.ln,I Z h.rf,I Z h.sp,I Z h.pu,I Z h.br,I Z h.dr,I Z h.lv,I Z h.dO,I Z h.ld,I Z h.qu] 31)).alloc (.cells #[I Z x.l.lo,I Z x.l.hi,I Z x.u.lo,I Z x.u.hi] 71)).alloc (.cells #[I Z s.lo.pos,I Z s.lo.vel,I Z s.lo.door,I Z s.up.pos,I Z s.up.vel,I Z s.up.door] 67)).alloc (.cells #[I Z 0,I Z 0,I Z 0,I Z 0,I Z 0] 151)).drew (w.heap.size + 2) s):=((SW.at_ ((w.alloc (.cells #[I Z h.fl,I Z h.gp,I Z h.ln,I Z h.rf,I Z h.sp,I Z h.pu,I Z h.br,I Z h.dr,I Z h.lv,I Z h.dO,I Z h.ld,I Z h.qu] 31)).alloc (.cells #[I Z x.l.lo,I Z x.l.hi,I Z x.u.lo,I Z x.u.hi] 71)) s _ _ (by simp)).alloc _).drew
 have F3:Hid (RSps ((((w.alloc (.cells #[I Z h.fl,I Z h.gp,I Z h.ln,I Z h.rf,I Z h.sp,I Z h.pu,I Z h.br,I Z h.dr,I Z h.lv,I Z h.dO,I Z h.ld,I Z h.qu] 31)).alloc (.cells #[I Z x.l.lo,I Z x.l.hi,I Z x.u.lo,I Z x.u.hi] 71)).alloc (.cells #[I Z s.lo.pos,I Z s.lo.vel,I Z s.lo.door,I Z s.up.pos,I Z s.up.vel,I Z s.up.door] 67)).alloc (.cells #[I Z 0,I Z 0,I Z 0,I Z 0,I Z 0] 151)).drew (w.heap.size + 3)):=(RSps.at_ (((w.alloc (.cells #[I Z h.fl,I Z h.gp,I Z h.ln,I Z h.rf,I Z h.sp,I Z h.pu,I Z h.br,I Z h.dr,I Z h.lv,I Z h.dO,I Z h.ld,I Z h.qu] 31)).alloc (.cells #[I Z x.l.lo,I Z x.l.hi,I Z x.u.lo,I Z x.u.hi] 71)).alloc (.cells #[I Z s.lo.pos,I Z s.lo.vel,I Z s.lo.door,I Z s.up.pos,I Z s.up.vel,I Z s.up.door] 67)) _ _ (by simp)).drew
 have FB:Hid (Below w.heap.size w ((((w.alloc (.cells #[I Z h.fl,I Z h.gp,I Z h.ln,I Z h.rf,I Z h.sp,I Z h.pu,I Z h.br,I Z h.dr,I Z h.lv,I Z h.dO,I Z h.ld,I Z h.qu] 31)).alloc (.cells #[I Z x.l.lo,I Z x.l.hi,I Z x.u.lo,I Z x.u.hi] 71)).alloc (.cells #[I Z s.lo.pos,I Z s.lo.vel,I Z s.lo.door,I Z s.up.pos,I Z s.up.vel,I Z s.up.door] 67)).alloc (.cells #[I Z 0,I Z 0,I Z 0,I Z 0,I Z 0] 151)).drew):=(((((Below.refl _ _).alloc (Nat.le_refl _) _).alloc (by simp <;> omega) _).alloc (by simp <;> omega) _).alloc (by simp <;> omega) _).drew
 obtain ⟨x0_0,x0_1,x0_2,x0_3,x0_4,x0_5,x0_6,x0_7,x0_8,x0_9,x0_10,x0_11⟩:=F0.out
 obtain ⟨x1_0,x1_1,x1_2,x1_3,y1_0,y1_1,y1_2,y1_3⟩:=F1.out
 obtain ⟨x2_0,x2_1,x2_2,x2_3,x2_4,x2_5,y2_0,y2_1,y2_2,y2_3,y2_4,y2_5⟩:=F2.out
 obtain ⟨x3_0,x3_1,x3_2,x3_3,x3_4,y3_0,y3_1,y3_2,y3_3,y3_4⟩:=F3.out
 obtain ⟨y,hy⟩:∃ y,Hs.relS h x s=y:=⟨_,rfl⟩
 rw [hy]
 obtain ⟨k1,k2,_,_,_⟩:=shaft_parts hs
 have HL:Hid (CarOk h s.lo):=Hs.car_zero k1
 have HU:Hid (CarOk h s.up):=Hs.car_zero k2
 obtain ⟨g1,hg1⟩:∃ g1,Hs.cover h s.lo=g1:=⟨_,rfl⟩
 obtain ⟨g2,hg2⟩:∃ g2,Hs.cover h s.up=g2:=⟨_,rfl⟩
 have HG1:=zH hg1
 have HG2:=zH hg2
 have HY1:Hid (cutS x.l g1=y.l):=by rw [← hy,← hg1];exact rfl
 have HY2:Hid (cutS x.u g2=y.u):=by rw [← hy,← hg2];exact rfl
 obtain ⟨z1,z2,z3,z4,z5,z6⟩:=spans_zero hf
 have oo:=Hs.ok_of (Hs.fault_zero z1).1
 have l1:=oo.fl2
 have HX:Hid (x.l.lo≤x.l.hi∧x.l.hi < x.u.lo∧x.u.lo≤x.u.hi):=⟨by omega,by omega,by omega⟩
 have HS:Hid (∀ f c,(upS x (x.u.hi + 1)) f=some c→-1≤f∧f≤1000):=upS_bd (by omega) (by omega) (by omega) (by omega) (by omega)
 have HC:Hid (∀ f c,(upS x (x.u.hi + 1)) f=some c→c=0 ∨ c=1):=fun f c h=>upS_car h
 have HSC:Hid (∀ f c,(cutM (upS x (x.u.hi + 1)) (⟨g1,g2⟩:Ss)) f=some c→-1≤f∧f≤1000):=fun f c h=>HS.out f c (cutM_car h)
 clear hy k1 k2 hg1 hg2 oo z1
 go_enter Tryz.func95,Tryz.ntmps95
 go_wp2_with fail
 refine wp_region_held_drew (S:=(fun w''=>w''.cell? ⟨w.heap.size,0,none⟩=some (I Z h.fl)∧w''.cell? ⟨w.heap.size,1,none⟩=some (I Z h.gp)∧w''.cell? ⟨w.heap.size,2,none⟩=some (I Z h.ln)∧w''.cell? ⟨w.heap.size,3,none⟩=some (I Z h.rf)∧w''.cell? ⟨w.heap.size,4,none⟩=some (I Z h.sp)∧w''.cell? ⟨w.heap.size,5,none⟩=some (I Z h.pu)∧w''.cell? ⟨w.heap.size,6,none⟩=some (I Z h.br)∧w''.cell? ⟨w.heap.size,7,none⟩=some (I Z h.dr)∧w''.cell? ⟨w.heap.size,8,none⟩=some (I Z h.lv)∧w''.cell? ⟨w.heap.size,9,none⟩=some (I Z h.dO)∧w''.cell? ⟨w.heap.size,10,none⟩=some (I Z h.ld)∧w''.cell? ⟨w.heap.size,11,none⟩=some (I Z h.qu)∧w''.cell? ⟨(w.heap.size + 1),0,none⟩=some (I Z x.l.lo)∧w''.cell? ⟨(w.heap.size + 1),1,none⟩=some (I Z x.l.hi)∧w''.cell? ⟨(w.heap.size + 1),2,none⟩=some (I Z x.u.lo)∧w''.cell? ⟨(w.heap.size + 1),3,none⟩=some (I Z x.u.hi)∧w''.cell? ⟨(w.heap.size + 2),0,none⟩=some (I Z s.lo.pos)∧w''.cell? ⟨(w.heap.size + 2),1,none⟩=some (I Z s.lo.vel)∧w''.cell? ⟨(w.heap.size + 2),2,none⟩=some (I Z s.lo.door)∧w''.cell? ⟨(w.heap.size + 2),3,none⟩=some (I Z s.up.pos)∧w''.cell? ⟨(w.heap.size + 2),4,none⟩=some (I Z s.up.vel)∧w''.cell? ⟨(w.heap.size + 2),5,none⟩=some (I Z s.up.door)∧w''.cell? ⟨(w.heap.size + 3),0,none⟩=some (I Z 0)∧w''.cell? ⟨(w.heap.size + 3),1,none⟩=some (I Z 0)∧w''.cell? ⟨(w.heap.size + 3),2,none⟩=some (I Z 0)∧w''.cell? ⟨(w.heap.size + 3),3,none⟩=some (I Z 0)∧w''.cell? ⟨(w.heap.size + 3),4,none⟩=some (I Z 0))) (by kernel_rfl) (by (try dsimp only);first | exact ⟨x0_0,x0_1,x0_2,x0_3,x0_4,x0_5,x0_6,x0_7,x0_8,x0_9,x0_10,x0_11,x1_0,x1_1,x1_2,x1_3,x2_0,x2_1,x2_2,x2_3,x2_4,x2_5,x3_0,x3_1,x3_2,x3_3,x3_4⟩ | go_keep) (fun hHeld=>?_)
 refine tkz 0 rfl ?_
 refine tkz 1 rfl ?_
 refine tkz 3 rfl ?_
 refine tkz 4 rfl ?_
 refine wpAnyH_ready (rs:=[2]) (by kernel_rfl) (by simp) ?_
 refine AllReadyH.cons rfl (fun K hK=>?_) AllReadyH.nil
 go_simp
 refine (implSpansFault_any h x _).mono ?_
 rw [hf]
 rintro e w1 ⟨rfl,hb⟩
 have F0:=zH (F0.out.below hb F0.out.lt)
 have F1:=zH (F1.out.below hb F1.out.lt)
 have F2:=zH (F2.out.below hb F2.out.lt)
 have F3:=zH (F3.out.below hb F3.out.lt)
 have FB:=tB FB hb
 obtain ⟨x0_0,x0_1,x0_2,x0_3,x0_4,x0_5,x0_6,x0_7,x0_8,x0_9,x0_10,x0_11⟩:=F0.out
 obtain ⟨x1_0,x1_1,x1_2,x1_3,y1_0,y1_1,y1_2,y1_3⟩:=F1.out
 obtain ⟨x2_0,x2_1,x2_2,x2_3,x2_4,x2_5,y2_0,y2_1,y2_2,y2_3,y2_4,y2_5⟩:=F2.out
 obtain ⟨x3_0,x3_1,x3_2,x3_3,x3_4,y3_0,y3_1,y3_2,y3_3,y3_4⟩:=F3.out
 clear hb
 try go_wp2_with fail
 refine hK.out _ _ (by (try dsimp only);go_keep) (fun hHeld=>?_)
 clear hK K
 try simp only [Act.put,List.getElem_toArray,List.getElem_cons_succ,List.getElem_cons_zero,List.setIfInBounds_toArray,List.set_cons_zero,List.set_cons_succ]
 refine wpAnyH_ready (rs:=[5]) (by kernel_rfl) (by simp) ?_
 refine AllReadyH.cons rfl (fun K hK=>?_) AllReadyH.nil
 go_simp
 refine (implShaftFault_any h s _).mono ?_
 rw [hs]
 rintro e w2 ⟨rfl,hb⟩
 have F0:=zH (F0.out.below hb F0.out.lt)
 have F1:=zH (F1.out.below hb F1.out.lt)
 have F2:=zH (F2.out.below hb F2.out.lt)
 have F3:=zH (F3.out.below hb F3.out.lt)
 have FB:=tB FB hb
 obtain ⟨x0_0,x0_1,x0_2,x0_3,x0_4,x0_5,x0_6,x0_7,x0_8,x0_9,x0_10,x0_11⟩:=F0.out
 obtain ⟨x1_0,x1_1,x1_2,x1_3,y1_0,y1_1,y1_2,y1_3⟩:=F1.out
 obtain ⟨x2_0,x2_1,x2_2,x2_3,x2_4,x2_5,y2_0,y2_1,y2_2,y2_3,y2_4,y2_5⟩:=F2.out
 obtain ⟨x3_0,x3_1,x3_2,x3_3,x3_4,y3_0,y3_1,y3_2,y3_3,y3_4⟩:=F3.out
 clear hb
 try go_wp2_with fail
 refine hK.out _ _ (by (try dsimp only);go_keep) (fun hHeld=>?_)
 clear hK K
 try simp only [Act.put,List.getElem_toArray,List.getElem_cons_succ,List.getElem_cons_zero,List.setIfInBounds_toArray,List.set_cons_zero,List.set_cons_succ]
 refine wpAnyH_ready (rs:=[6]) (by kernel_rfl) (by simp) ?_
 refine AllReadyH.cons rfl (fun K hK=>?_) AllReadyH.nil
 go_simp
 have F0:Hid (HAt (w2.alloc (.cells #[I Z 0,I Z 0] 2)) w.heap.size h):=F0.out.alloc _
 have F1:Hid (NW (w2.alloc (.cells #[I Z 0,I Z 0] 2)) (w.heap.size + 1) x):=F1.out.alloc _
 have F2:Hid (SW (w2.alloc (.cells #[I Z 0,I Z 0] 2)) (w.heap.size + 2) s):=F2.out.alloc _
 have F3:Hid (RSps (w2.alloc (.cells #[I Z 0,I Z 0] 2)) (w.heap.size + 3)):=F3.out.alloc _
 have FB:Hid (Below w.heap.size w (w2.alloc (.cells #[I Z 0,I Z 0] 2))):=FB.out.alloc FB.out.size _
 obtain ⟨x0_0,x0_1,x0_2,x0_3,x0_4,x0_5,x0_6,x0_7,x0_8,x0_9,x0_10,x0_11⟩:=F0.out
 obtain ⟨x1_0,x1_1,x1_2,x1_3,y1_0,y1_1,y1_2,y1_3⟩:=F1.out
 obtain ⟨x2_0,x2_1,x2_2,x2_3,x2_4,x2_5,y2_0,y2_1,y2_2,y2_3,y2_4,y2_5⟩:=F2.out
 obtain ⟨x3_0,x3_1,x3_2,x3_3,x3_4,y3_0,y3_1,y3_2,y3_3,y3_4⟩:=F3.out
 refine hK.out _ _ (by (try dsimp only);go_keep) (fun hHeld=>?_)
 clear hK K
 try simp only [Act.put,List.getElem_toArray,List.getElem_cons_succ,List.getElem_cons_zero,List.setIfInBounds_toArray,List.set_cons_zero,List.set_cons_succ]
 refine wpAnyH_ready (rs:=[7]) (by kernel_rfl) (by simp) ?_
 refine AllReadyH.cons rfl (fun K hK=>?_) AllReadyH.nil
 go_simp
 refine (or_second 0 0 rfl _ _ (by simp) (by simp)).mono ?_
 rintro e w' ⟨rfl,hw⟩
 obtain rfl:=hw.symm
 clear hw
 try go_wp2_with fail
 refine hK.out _ _ (by (try dsimp only);go_keep) (fun hHeld=>?_)
 clear hK K
 try simp only [Act.put,List.getElem_toArray,List.getElem_cons_succ,List.getElem_cons_zero,List.setIfInBounds_toArray,List.set_cons_zero,List.set_cons_succ]
 refine tkz 8 rfl ?_
 refine wpAnyH_done (by kernel_rfl) ?_ _
 go_upto_region 5 with (go_at_call 150;refine (heldFloors_any x (by omega) (by omega) (by omega) (by omega) (by omega) _).mono ?_;rintro e w4 ⟨mb,nn,rfl,hmb,hnn,hm,hb⟩;have FM:=zH hm;have lmb:w.heap.size + 4≤mb:=Nat.le_trans F3.out.lt hmb;clear hm hnn hmb;have F0:=zH (F0.out.below hb F0.out.lt);have F1:=zH (F1.out.below hb F1.out.lt);have F2:=zH (F2.out.below hb F2.out.lt);have F3:=zH (F3.out.below hb F3.out.lt);have FB:=tB FB hb;obtain ⟨x0_0,x0_1,x0_2,x0_3,x0_4,x0_5,x0_6,x0_7,x0_8,x0_9,x0_10,x0_11⟩:=F0.out;obtain ⟨x1_0,x1_1,x1_2,x1_3,y1_0,y1_1,y1_2,y1_3⟩:=F1.out;obtain ⟨x2_0,x2_1,x2_2,x2_3,x2_4,x2_5,y2_0,y2_1,y2_2,y2_3,y2_4,y2_5⟩:=F2.out;obtain ⟨x3_0,x3_1,x3_2,x3_3,x3_4,y3_0,y3_1,y3_2,y3_3,y3_4⟩:=F3.out;clear hb)
 replace F0:Hid (HAt w4.drew w.heap.size h):=F0.out.below (Below.refl _ _).drew F0.out.lt
 replace F1:Hid (NW w4.drew (w.heap.size + 1) x):=F1.out.below (Below.refl _ _).drew F1.out.lt
 replace F2:Hid (SW w4.drew (w.heap.size + 2) s):=F2.out.below (Below.refl _ _).drew F2.out.lt
 replace F3:Hid (RSps w4.drew (w.heap.size + 3)):=F3.out.below (Below.refl _ _).drew F3.out.lt
 replace FB:Hid (Below w.heap.size w w4.drew):=FB.out.drew
 replace FM:Hid (Held w4.drew mb nn (upS x (x.u.hi + 1))):=FM.out.drew
 obtain ⟨x0_0,x0_1,x0_2,x0_3,x0_4,x0_5,x0_6,x0_7,x0_8,x0_9,x0_10,x0_11⟩:=F0.out
 obtain ⟨x1_0,x1_1,x1_2,x1_3,y1_0,y1_1,y1_2,y1_3⟩:=F1.out
 obtain ⟨x2_0,x2_1,x2_2,x2_3,x2_4,x2_5,y2_0,y2_1,y2_2,y2_3,y2_4,y2_5⟩:=F2.out
 refine wp_region_held_drew (S:=(fun w''=>w''.cell? ⟨w.heap.size,0,none⟩=some (I Z h.fl)∧w''.cell? ⟨w.heap.size,1,none⟩=some (I Z h.gp)∧w''.cell? ⟨w.heap.size,2,none⟩=some (I Z h.ln)∧w''.cell? ⟨w.heap.size,3,none⟩=some (I Z h.rf)∧w''.cell? ⟨w.heap.size,4,none⟩=some (I Z h.sp)∧w''.cell? ⟨w.heap.size,5,none⟩=some (I Z h.pu)∧w''.cell? ⟨w.heap.size,6,none⟩=some (I Z h.br)∧w''.cell? ⟨w.heap.size,7,none⟩=some (I Z h.dr)∧w''.cell? ⟨w.heap.size,8,none⟩=some (I Z h.lv)∧w''.cell? ⟨w.heap.size,9,none⟩=some (I Z h.dO)∧w''.cell? ⟨w.heap.size,10,none⟩=some (I Z h.ld)∧w''.cell? ⟨w.heap.size,11,none⟩=some (I Z h.qu)∧w''.cell? ⟨(w.heap.size + 1),0,none⟩=some (I Z x.l.lo)∧w''.cell? ⟨(w.heap.size + 1),1,none⟩=some (I Z x.l.hi)∧w''.cell? ⟨(w.heap.size + 1),2,none⟩=some (I Z x.u.lo)∧w''.cell? ⟨(w.heap.size + 1),3,none⟩=some (I Z x.u.hi)∧w''.cell? ⟨(w.heap.size + 2),0,none⟩=some (I Z s.lo.pos)∧w''.cell? ⟨(w.heap.size + 2),1,none⟩=some (I Z s.lo.vel)∧w''.cell? ⟨(w.heap.size + 2),2,none⟩=some (I Z s.lo.door)∧w''.cell? ⟨(w.heap.size + 2),3,none⟩=some (I Z s.up.pos)∧w''.cell? ⟨(w.heap.size + 2),4,none⟩=some (I Z s.up.vel)∧w''.cell? ⟨(w.heap.size + 2),5,none⟩=some (I Z s.up.door))) (by kernel_rfl) (by (try dsimp only);first | exact ⟨x0_0,x0_1,x0_2,x0_3,x0_4,x0_5,x0_6,x0_7,x0_8,x0_9,x0_10,x0_11,x1_0,x1_1,x1_2,x1_3,x2_0,x2_1,x2_2,x2_3,x2_4,x2_5⟩ | go_keep) (fun hHeld=>?_)
 obtain ⟨v_1,hw1⟩:∃ v_1,v_1=w4.drew:=⟨_,rfl⟩
 replace F0:Hid (HAt v_1 w.heap.size h):=by rw [hw1];exact F0.out
 replace F1:Hid (NW v_1 (w.heap.size + 1) x):=by rw [hw1];exact F1.out
 replace F2:Hid (SW v_1 (w.heap.size + 2) s):=by rw [hw1];exact F2.out
 replace F3:Hid (RSps v_1 (w.heap.size + 3)):=by rw [hw1];exact F3.out
 replace FB:Hid (Below w.heap.size w v_1):=by rw [hw1];exact FB.out
 replace FM:Hid (Held v_1 mb nn (upS x (x.u.hi + 1))):=by rw [hw1];exact FM.out
 rw [← hw1] at hHeld ⊢
 clear hw1
 clear x0_0 x0_1 x0_2 x0_3 x0_4 x0_5 x0_6 x0_7 x0_8 x0_9 x0_10 x0_11 x1_0 x1_1 x1_2 x1_3 x2_0 x2_1 x2_2 x2_3 x2_4 x2_5
 obtain ⟨x0_0,x0_1,x0_2,x0_3,x0_4,x0_5,x0_6,x0_7,x0_8,x0_9,x0_10,x0_11⟩:=F0.out
 obtain ⟨x1_0,x1_1,x1_2,x1_3,y1_0,y1_1,y1_2,y1_3⟩:=F1.out
 obtain ⟨x2_0,x2_1,x2_2,x2_3,x2_4,x2_5,y2_0,y2_1,y2_2,y2_3,y2_4,y2_5⟩:=F2.out
 refine tkz 0 rfl ?_
 refine tkz 1 rfl ?_
 refine tkz 2 rfl ?_
 refine tkz 3 rfl ?_
 refine tkz 5 rfl ?_
 refine tkz 6 rfl ?_
 refine tkz 7 rfl ?_
 refine rd1 4 (fun K hK=>?_)
 go_simp
 refine (coverOf_any h s.lo HL.out g1 HG1.out _).mono ?_
 rintro e v_2 ⟨rfl,hb⟩
 replace F0:Hid (HAt v_2 w.heap.size h):=F0.out.below hb F0.out.lt
 replace F1:Hid (NW v_2 (w.heap.size + 1) x):=F1.out.below hb F1.out.lt
 replace F2:Hid (SW v_2 (w.heap.size + 2) s):=F2.out.below hb F2.out.lt
 replace F3:Hid (RSps v_2 (w.heap.size + 3)):=F3.out.below hb F3.out.lt
 replace FB:Hid (Below w.heap.size w v_2):=FB.out.trans (hb.mono FB.out.size)
 replace FM:Hid (Held v_2 mb nn (upS x (x.u.hi + 1))):=FM.out.below hb FM.out.lt
 clear hb
 clear x0_0 x0_1 x0_2 x0_3 x0_4 x0_5 x0_6 x0_7 x0_8 x0_9 x0_10 x0_11 x1_0 x1_1 x1_2 x1_3 x2_0 x2_1 x2_2 x2_3 x2_4 x2_5
 obtain ⟨x0_0,x0_1,x0_2,x0_3,x0_4,x0_5,x0_6,x0_7,x0_8,x0_9,x0_10,x0_11⟩:=F0.out
 obtain ⟨x1_0,x1_1,x1_2,x1_3,y1_0,y1_1,y1_2,y1_3⟩:=F1.out
 obtain ⟨x2_0,x2_1,x2_2,x2_3,x2_4,x2_5,y2_0,y2_1,y2_2,y2_3,y2_4,y2_5⟩:=F2.out
 try dsimp only
 refine kp hK (fun hHeld=>?_)
 clear hK K
 refine rd1 8 (fun K hK=>?_)
 go_simp
 refine (coverOf_any h s.up HU.out g2 HG2.out _).mono ?_
 rintro e v_3 ⟨rfl,hb⟩
 replace F0:Hid (HAt v_3 w.heap.size h):=F0.out.below hb F0.out.lt
 replace F1:Hid (NW v_3 (w.heap.size + 1) x):=F1.out.below hb F1.out.lt
 replace F2:Hid (SW v_3 (w.heap.size + 2) s):=F2.out.below hb F2.out.lt
 replace F3:Hid (RSps v_3 (w.heap.size + 3)):=F3.out.below hb F3.out.lt
 replace FB:Hid (Below w.heap.size w v_3):=FB.out.trans (hb.mono FB.out.size)
 replace FM:Hid (Held v_3 mb nn (upS x (x.u.hi + 1))):=FM.out.below hb FM.out.lt
 clear hb
 clear x0_0 x0_1 x0_2 x0_3 x0_4 x0_5 x0_6 x0_7 x0_8 x0_9 x0_10 x0_11 x1_0 x1_1 x1_2 x1_3 x2_0 x2_1 x2_2 x2_3 x2_4 x2_5
 obtain ⟨x0_0,x0_1,x0_2,x0_3,x0_4,x0_5,x0_6,x0_7,x0_8,x0_9,x0_10,x0_11⟩:=F0.out
 obtain ⟨x1_0,x1_1,x1_2,x1_3,y1_0,y1_1,y1_2,y1_3⟩:=F1.out
 obtain ⟨x2_0,x2_1,x2_2,x2_3,x2_4,x2_5,y2_0,y2_1,y2_2,y2_3,y2_4,y2_5⟩:=F2.out
 try dsimp only
 refine kp hK (fun hHeld=>?_)
 clear hK K
 refine tkz 9 rfl ?_
 refine rd1 10 (fun K hK=>?_)
 go_simp
 refine (giveBack_below mb nn (w.heap.size + 4) (upS x (x.u.hi + 1)) (⟨g1,g2⟩:Ss) HS.out HC.out (by omega) _ FM.out).mono ?_
 rintro e v_4 ⟨rfl,hm,hb⟩
 replace F0:Hid (HAt v_4 w.heap.size h):=F0.out.below hb (by omega)
 replace F1:Hid (NW v_4 (w.heap.size + 1) x):=F1.out.below hb (by omega)
 replace F2:Hid (SW v_4 (w.heap.size + 2) s):=F2.out.below hb (by omega)
 replace F3:Hid (RSps v_4 (w.heap.size + 3)):=F3.out.below hb (by omega)
 replace FB:Hid (Below w.heap.size w v_4):=FB.out.trans (hb.mono (by omega))
 replace FM:Hid (Held v_4 mb nn (cutM (upS x (x.u.hi + 1)) (⟨g1,g2⟩:Ss))):=hm
 clear hb hm
 clear x0_0 x0_1 x0_2 x0_3 x0_4 x0_5 x0_6 x0_7 x0_8 x0_9 x0_10 x0_11 x1_0 x1_1 x1_2 x1_3 x2_0 x2_1 x2_2 x2_3 x2_4 x2_5
 obtain ⟨x0_0,x0_1,x0_2,x0_3,x0_4,x0_5,x0_6,x0_7,x0_8,x0_9,x0_10,x0_11⟩:=F0.out
 obtain ⟨x1_0,x1_1,x1_2,x1_3,y1_0,y1_1,y1_2,y1_3⟩:=F1.out
 obtain ⟨x2_0,x2_1,x2_2,x2_3,x2_4,x2_5,y2_0,y2_1,y2_2,y2_3,y2_4,y2_5⟩:=F2.out
 try dsimp only
 refine kp hK (fun hHeld=>?_)
 clear hK K
 refine wpAnyH_done (by kernel_rfl) ?_ _
 go_upto_region 6 with fail
 obtain ⟨w5,rfl⟩:∃ w5,w5=v_4:=⟨_,rfl⟩
 replace F0:Hid (HAt w5.drew w.heap.size h):=F0.out.below (Below.refl _ _).drew F0.out.lt
 replace F1:Hid (NW w5.drew (w.heap.size + 1) x):=F1.out.below (Below.refl _ _).drew F1.out.lt
 replace F2:Hid (SW w5.drew (w.heap.size + 2) s):=F2.out.below (Below.refl _ _).drew F2.out.lt
 replace F3:Hid (RSps w5.drew (w.heap.size + 3)):=F3.out.below (Below.refl _ _).drew F3.out.lt
 replace FB:Hid (Below w.heap.size w w5.drew):=FB.out.drew
 replace FM:Hid (Held w5.drew mb nn (cutM (upS x (x.u.hi + 1)) (⟨g1,g2⟩:Ss))):=FM.out.drew
 obtain ⟨x0_0,x0_1,x0_2,x0_3,x0_4,x0_5,x0_6,x0_7,x0_8,x0_9,x0_10,x0_11⟩:=F0.out
 obtain ⟨x1_0,x1_1,x1_2,x1_3,y1_0,y1_1,y1_2,y1_3⟩:=F1.out
 obtain ⟨x2_0,x2_1,x2_2,x2_3,x2_4,x2_5,y2_0,y2_1,y2_2,y2_3,y2_4,y2_5⟩:=F2.out
 refine wp_region_held_drew (S:=(fun w''=>w''.cell? ⟨w.heap.size,0,none⟩=some (I Z h.fl)∧w''.cell? ⟨w.heap.size,1,none⟩=some (I Z h.gp)∧w''.cell? ⟨w.heap.size,2,none⟩=some (I Z h.ln)∧w''.cell? ⟨w.heap.size,3,none⟩=some (I Z h.rf)∧w''.cell? ⟨w.heap.size,4,none⟩=some (I Z h.sp)∧w''.cell? ⟨w.heap.size,5,none⟩=some (I Z h.pu)∧w''.cell? ⟨w.heap.size,6,none⟩=some (I Z h.br)∧w''.cell? ⟨w.heap.size,7,none⟩=some (I Z h.dr)∧w''.cell? ⟨w.heap.size,8,none⟩=some (I Z h.lv)∧w''.cell? ⟨w.heap.size,9,none⟩=some (I Z h.dO)∧w''.cell? ⟨w.heap.size,10,none⟩=some (I Z h.ld)∧w''.cell? ⟨w.heap.size,11,none⟩=some (I Z h.qu)∧w''.cell? ⟨(w.heap.size + 1),0,none⟩=some (I Z x.l.lo)∧w''.cell? ⟨(w.heap.size + 1),1,none⟩=some (I Z x.l.hi)∧w''.cell? ⟨(w.heap.size + 1),2,none⟩=some (I Z x.u.lo)∧w''.cell? ⟨(w.heap.size + 1),3,none⟩=some (I Z x.u.hi)∧w''.cell? ⟨(w.heap.size + 2),0,none⟩=some (I Z s.lo.pos)∧w''.cell? ⟨(w.heap.size + 2),1,none⟩=some (I Z s.lo.vel)∧w''.cell? ⟨(w.heap.size + 2),2,none⟩=some (I Z s.lo.door)∧w''.cell? ⟨(w.heap.size + 2),3,none⟩=some (I Z s.up.pos)∧w''.cell? ⟨(w.heap.size + 2),4,none⟩=some (I Z s.up.vel)∧w''.cell? ⟨(w.heap.size + 2),5,none⟩=some (I Z s.up.door))) (by kernel_rfl) (by (try dsimp only);first | exact ⟨x0_0,x0_1,x0_2,x0_3,x0_4,x0_5,x0_6,x0_7,x0_8,x0_9,x0_10,x0_11,x1_0,x1_1,x1_2,x1_3,x2_0,x2_1,x2_2,x2_3,x2_4,x2_5⟩ | go_keep) (fun hHeld=>?_)
 obtain ⟨v_5,hw1⟩:∃ v_5,v_5=w5.drew:=⟨_,rfl⟩
 replace F0:Hid (HAt v_5 w.heap.size h):=by rw [hw1];exact F0.out
 replace F1:Hid (NW v_5 (w.heap.size + 1) x):=by rw [hw1];exact F1.out
 replace F2:Hid (SW v_5 (w.heap.size + 2) s):=by rw [hw1];exact F2.out
 replace F3:Hid (RSps v_5 (w.heap.size + 3)):=by rw [hw1];exact F3.out
 replace FB:Hid (Below w.heap.size w v_5):=by rw [hw1];exact FB.out
 replace FM:Hid (Held v_5 mb nn (cutM (upS x (x.u.hi + 1)) (⟨g1,g2⟩:Ss))):=by rw [hw1];exact FM.out
 rw [← hw1] at hHeld ⊢
 clear hw1
 clear x0_0 x0_1 x0_2 x0_3 x0_4 x0_5 x0_6 x0_7 x0_8 x0_9 x0_10 x0_11 x1_0 x1_1 x1_2 x1_3 x2_0 x2_1 x2_2 x2_3 x2_4 x2_5
 obtain ⟨x0_0,x0_1,x0_2,x0_3,x0_4,x0_5,x0_6,x0_7,x0_8,x0_9,x0_10,x0_11⟩:=F0.out
 obtain ⟨x1_0,x1_1,x1_2,x1_3,y1_0,y1_1,y1_2,y1_3⟩:=F1.out
 obtain ⟨x2_0,x2_1,x2_2,x2_3,x2_4,x2_5,y2_0,y2_1,y2_2,y2_3,y2_4,y2_5⟩:=F2.out
 refine tkz 0 rfl ?_
 refine tkz 1 rfl ?_
 refine tkz 2 rfl ?_
 refine tkz 4 rfl ?_
 refine tkz 5 rfl ?_
 refine tkz 6 rfl ?_
 refine rd1 3 (fun K hK=>?_)
 go_simp
 refine (leftTo_any mb nn (cutM (upS x (x.u.hi + 1)) (⟨g1,g2⟩:Ss)) 0 x.l HSC.out _ FM.out).mono ?_
 rintro e v_6 ⟨k1,lf1,hk1,hz1,rfl,hb⟩
 replace F0:Hid (HAt v_6 w.heap.size h):=F0.out.below hb F0.out.lt
 replace F1:Hid (NW v_6 (w.heap.size + 1) x):=F1.out.below hb F1.out.lt
 replace F2:Hid (SW v_6 (w.heap.size + 2) s):=F2.out.below hb F2.out.lt
 replace F3:Hid (RSps v_6 (w.heap.size + 3)):=F3.out.below hb F3.out.lt
 replace FB:Hid (Below w.heap.size w v_6):=FB.out.trans (hb.mono FB.out.size)
 replace FM:Hid (Held v_6 mb nn (cutM (upS x (x.u.hi + 1)) (⟨g1,g2⟩:Ss))):=FM.out.below hb FM.out.lt
 clear hb
 clear x0_0 x0_1 x0_2 x0_3 x0_4 x0_5 x0_6 x0_7 x0_8 x0_9 x0_10 x0_11 x1_0 x1_1 x1_2 x1_3 x2_0 x2_1 x2_2 x2_3 x2_4 x2_5
 obtain ⟨x0_0,x0_1,x0_2,x0_3,x0_4,x0_5,x0_6,x0_7,x0_8,x0_9,x0_10,x0_11⟩:=F0.out
 obtain ⟨x1_0,x1_1,x1_2,x1_3,y1_0,y1_1,y1_2,y1_3⟩:=F1.out
 obtain ⟨x2_0,x2_1,x2_2,x2_3,x2_4,x2_5,y2_0,y2_1,y2_2,y2_3,y2_4,y2_5⟩:=F2.out
 have HK1:Hid (keptS x.l k1=y.l):=by rw [← HY1.out];exact kept_cut hk1 hz1 HX.out.1 (cut_lo HX.out.2.1 _)
 clear hk1 hz1
 try dsimp only
 refine kp hK (fun hHeld=>?_)
 clear hK K
 refine rd1 7 (fun K hK=>?_)
 go_simp
 refine (leftTo_any mb nn (cutM (upS x (x.u.hi + 1)) (⟨g1,g2⟩:Ss)) 1 x.u HSC.out _ FM.out).mono ?_
 rintro e v_7 ⟨k2,lf2,hk2,hz2,rfl,hb⟩
 replace F0:Hid (HAt v_7 w.heap.size h):=F0.out.below hb F0.out.lt
 replace F1:Hid (NW v_7 (w.heap.size + 1) x):=F1.out.below hb F1.out.lt
 replace F2:Hid (SW v_7 (w.heap.size + 2) s):=F2.out.below hb F2.out.lt
 replace F3:Hid (RSps v_7 (w.heap.size + 3)):=F3.out.below hb F3.out.lt
 replace FB:Hid (Below w.heap.size w v_7):=FB.out.trans (hb.mono FB.out.size)
 replace FM:Hid (Held v_7 mb nn (cutM (upS x (x.u.hi + 1)) (⟨g1,g2⟩:Ss))):=FM.out.below hb FM.out.lt
 clear hb
 clear x0_0 x0_1 x0_2 x0_3 x0_4 x0_5 x0_6 x0_7 x0_8 x0_9 x0_10 x0_11 x1_0 x1_1 x1_2 x1_3 x2_0 x2_1 x2_2 x2_3 x2_4 x2_5
 obtain ⟨x0_0,x0_1,x0_2,x0_3,x0_4,x0_5,x0_6,x0_7,x0_8,x0_9,x0_10,x0_11⟩:=F0.out
 obtain ⟨x1_0,x1_1,x1_2,x1_3,y1_0,y1_1,y1_2,y1_3⟩:=F1.out
 obtain ⟨x2_0,x2_1,x2_2,x2_3,x2_4,x2_5,y2_0,y2_1,y2_2,y2_3,y2_4,y2_5⟩:=F2.out
 have HK2:Hid (keptS x.u k2=y.u):=by rw [← HY2.out];exact kept_cut hk2 hz2 HX.out.2.2 (cut_up HX.out.2.1)
 clear hk2 hz2
 try dsimp only
 refine kp hK (fun hHeld=>?_)
 clear hK K
 refine tkz 8 rfl ?_
 refine tkz 9 rfl ?_
 refine rd1 10 (fun K hK=>?_)
 obtain ⟨x3_0,x3_1,x3_2,x3_3,x3_4,y3_0,y3_1,y3_2,y3_3,y3_4⟩:=F3.out
 go_simp
 obtain ⟨v_8,hw2⟩:∃ v_8,v_8=putSps v_7 (w.heap.size + 3) 0 (⟨keptS x.l k1,keptS x.u k2⟩:Ss):=⟨_,rfl⟩
 change K _ (putSps v_7 (w.heap.size + 3) 0 (⟨keptS x.l k1,keptS x.u k2⟩:Ss))
 rw [← hw2]
 clear x3_0 x3_1 x3_2 x3_3 x3_4 y3_0 y3_1 y3_2 y3_3 y3_4
 replace F0:Hid (HAt v_8 w.heap.size h):=by rw [hw2];exact F0.out.below (below_putSps (Below.refl _ _) (Nat.le_refl _) 0 _) (by omega)
 replace F1:Hid (NW v_8 (w.heap.size + 1) x):=by rw [hw2];exact F1.out.below (below_putSps (Below.refl _ _) (Nat.le_refl _) 0 _) (by omega)
 replace F2:Hid (SW v_8 (w.heap.size + 2) s):=by rw [hw2];exact F2.out.below (below_putSps (Below.refl _ _) (Nat.le_refl _) 0 _) (by omega)
 replace F3:Hid (VSps v_8 (w.heap.size + 3) 0 (⟨keptS x.l k1,keptS x.u k2⟩:Ss)):=by rw [hw2];exact F3.out.put 0 _
 replace FB:Hid (Below w.heap.size w v_8):=by rw [hw2];exact below_putSps FB.out (by omega) 0 _
 clear hw2
 clear x0_0 x0_1 x0_2 x0_3 x0_4 x0_5 x0_6 x0_7 x0_8 x0_9 x0_10 x0_11 x1_0 x1_1 x1_2 x1_3 x2_0 x2_1 x2_2 x2_3 x2_4 x2_5
 obtain ⟨x0_0,x0_1,x0_2,x0_3,x0_4,x0_5,x0_6,x0_7,x0_8,x0_9,x0_10,x0_11⟩:=F0.out
 obtain ⟨x1_0,x1_1,x1_2,x1_3,y1_0,y1_1,y1_2,y1_3⟩:=F1.out
 obtain ⟨x2_0,x2_1,x2_2,x2_3,x2_4,x2_5,y2_0,y2_1,y2_2,y2_3,y2_4,y2_5⟩:=F2.out
 refine kp hK (fun hHeld=>?_)
 clear hK K
 refine wpAnyH_done (by kernel_rfl) ?_ _
 obtain ⟨x3_0,x3_1,x3_2,x3_3,x3_4⟩:=F3.out
 try dsimp only at x3_0 x3_1 x3_2 x3_3 x3_4
 go_wp2_with fail
 exact bodyPost_ret (v:=.agg #[I Z 0,I Z (keptS x.l k1).lo,I Z (keptS x.l k1).hi,I Z (keptS x.u k2).lo,I Z (keptS x.u k2).hi]) (by simp [results,Tryz.results95,go_sem,x3_0,x3_1,x3_2,x3_3,x3_4]) rfl ⟨by rw [HK1.out,HK2.out],FB.out⟩
end Go.Proofs.YteimojoicfjdjaaGreat
