/- Parts of the proof: XTi. -/
import Derived.Test.YteimojoicfjdjaaGreatZ51
import Derived.Test.YteimojoicfjdjaaGreatZ53
namespace Go.Proofs.YteimojoicfjdjaaGreat
set_option maxRecDepth 20000
set_option maxHeartbeats 16000000
open Value renaming int → I
open IntKind renaming i64 → Z
open Go.RowKit Pl Sx
set_option linter.unusedVariables false
set_option linter.unusedSimpArgs false
theorem set_eq{α:Type}{l:List α}{i:Nat}{p:α}(h:l[i]? = some p):l.set i p=l:=by
 apply List.ext_getElem?
 intro j
 rw [List.getElem?_set]
 by_cases e:i=j
 ·subst e
  have hi:=(List.getElem?_eq_some_iff.1 h).1
  rw [if_pos rfl,if_pos hi,h]
 ·rw [if_neg e]
theorem tk8_away(h:Hs)(rc:Bool)(dl du:Int)(s:List Dk × List Pe)(n:Nat):∀ k,awayB n (tk8 h rc dl du s k).2=awayB n s.2
 | 0=>rfl
 | k + 1=>by
  have ih:=tk8_away h rc dl du s n k
  unfold tk8
  split
  ·dsimp only;rw [ppl_away,ih]
  ·exact ih
theorem tick_w{w:World}{B gb g1 g2:Nat}{a:Gp}{ds:List Dk}{ps:List Pe}(h3:a.n≤3)(hnp:a.np≤1048576)(ok:TkOk a (ds,ps))(aw:awayB a.n ps=false)(dl du:Int)(d1:-a.h.dr≤dl)(d2:dl≤a.h.dr)(e1:-a.h.dr≤du)(e2:du≤a.h.dr)(t1:0≤a.tk)(t2:a.tk + 1≤1000000000000000)(W:World)(hG:Gs W w B gb g1 a.c g2 a.c2 a.h ds a.nx ps a.tk a.rc) :
  Calls Tryz.prog 25 #[.pointer (some ⟨gb,0,none⟩),I Z dl,I Z du] W fun e w'=>e=.returned (.tuple #[])∧∃ p c,Gs w' w B gb g1 a.c p c a.h (tk8 a.h a.rc dl du (ds,ps) a.n).1 a.nx (tk8 a.h a.rc dl du (ds,ps) a.n).2 (a.tk + 1) a.rc:=by
 have G:=zH hG
 have OK:=zH ok
 have AW:=zH aw
 have hl:ds.length=a.n:=ok.ld
 clear hG ok aw
 have m15:=G.out.f.c 15 _ rfl
 have z15:=G.out.f.f 15 (by simp)
 have w1:IntKind.i64.wrap (a.tk + 1)=a.tk + 1:=IntWalk.i64_in _ (by omega)
 have n15:a.tk + 1≤1000000000000000:=t2
 go_enter Tryz.func25,Tryz.ntmps25
 go_upto_region 1 with fail
 obtain ⟨W1,hW1⟩:∃ X,X=W.setCell ⟨gb,15,none⟩ (I Z (a.tk + 1)):=⟨_,rfl⟩
 have G:Hid (Gs W1 w B gb g1 a.c g2 a.c2 a.h ds a.nx ps (a.tk + 1) a.rc):=by rw [hW1];exact G.out.tick _
 rw [← hW1]
 clear hW1 m15 z15 w1
 have g12:=G.out.f.c 12 _ rfl
 rw [hl] at g12
 go_wp2_with fail
 clear g12
 go_loopw [20] (fun kk wr=>∃ k:Nat,kk=I Z k∧k≤a.n∧∃ p2 c2,Gs wr w B gb g1 a.c p2 c2 a.h (tk8 a.h a.rc dl du (ds,ps) k).1 a.nx (tk8 a.h a.rc dl du (ds,ps) k).2 (a.tk + 1) a.rc) (fun kk _=>a.n - (intOf kk).toNat)
 case atStart=>exact ⟨0,rfl,by omega,g2,a.c2,G.out⟩
 case round=>
  obtain ⟨k,rfl,hk,p2,c2,g⟩:=hrel
  have T:TkOk a (tk8 a.h a.rc dl du (ds,ps) k):=tk8_ok h3 d1 d2 e1 e2 OK.out k hk
  have aw:awayB a.n (tk8 a.h a.rc dl du (ds,ps) k).2=false:=(tk8_away _ _ _ _ _ _ _).trans AW.out
  obtain ⟨q,hq⟩:∃ q,tk8 a.h a.rc dl du (ds,ps) k=q:=⟨_,rfl⟩
  rw [hq] at g T aw
  have hl1:=T.ld
  have g12:=g.f.c 12 _ rfl
  rw [hl1] at g12
  by_cases hlt:k < a.n
  ·have hlt':decide ((k:Int) < (a.n:Int))=true:=decide_eq_true (by omega)
   obtain ⟨d,hd⟩:∃ d,q.1[k]? = some d:=⟨_,List.getElem?_eq_getElem (by omega)⟩
   have hs:tk8 a.h a.rc dl du (ds,ps) (k + 1)=(q.1.set k (end8 a.h (mid8 a.h (freeD a.h d) (need8 a.h q.1 q.2 a.rc k 0) (need8 a.h q.1 q.2 a.rc k 1) dl du)),ppl8 a.h a.rc q.2 k (mid8 a.h (freeD a.h d) (need8 a.h q.1 q.2 a.rc k 0) (need8 a.h q.1 q.2 a.rc k 1) dl du)):=by
    show (match (tk8 a.h a.rc dl du (ds,ps) k).1[k]? with | some d=>_ | none=>_)=_
    rw [hq,hd]
   have CD:Hid (∀ W1,Blk W1 wr.heap.size (tPh gb g1 k ⟨(k:Int),(0,0,0),(0,0,0),false,0,0⟩)→Gs W1 w B gb g1 a.c p2 c2 a.h q.1 a.nx q.2 (a.tk + 1) a.rc →
     Calls Tryz.prog 47 #[.pointer (some ⟨wr.heap.size,0,none⟩),I Z dl,I Z du] W1 fun e w'=>e=.returned (.tuple #[])∧∃ p c,Gs w' w B gb g1 a.c p c a.h (tk8 a.h a.rc dl du (ds,ps) (k + 1)).1 a.nx (tk8 a.h a.rc dl du (ds,ps) (k + 1)).2 (a.tk + 1) a.rc):=fun W1 f G1=>by
    have b1:=g.f.lt;have b2:=g.d.bl.2;have b3:=g.p.bl.2;have lo:=g.lo
    have X:PX W1.heap.size B wr.heap.size gb g1 p2 ⟨a.h,a.n,a.c,a.nx,a.np,c2,a.tk + 1,a.rc⟩ q.1 k:=⟨hl1,by omega,by omega,by omega,by omega,f.lt,G1.f.lt,G1.d.bl.2,G1.p.bl.2,by omega⟩
    have S:q.1.set k d=q.1:=set_eq hd
    refine (take_w (w:=w) (W0:=W1) X hnp h3 d hd (T.dk k d hd) q.2 T.led aw T.dk (by show 0≤a.tk + 1;omega) n15 dl du d1 d2 e1 e2 W1 (Nat.le_refl _) ⟨f,S.symm ▸ G1,T.lp,by omega,⟨Nat.le_refl _,fun _ _ _ _ _ _=>rfl⟩,.inl rfl⟩).mono ?_
    rintro e w' ⟨rfl,p3,c3,t',V⟩
    exact ⟨rfl,p3,c3,by rw [hs];exact V.G⟩
   have w2:IntKind.i64.wrap ((k:Int) + 1)=(k:Int) + 1:=IntWalk.i64_in _ (by omega)
   have GG:=zH g
   have HLT:=zH hlt
   have k1:(0:Int)≤(k:Int):=by omega
   have k2:(k:Int) < (a.n:Int):=by omega
   clear hs g hlt hq hd T OK AW G hl hl1 aw
   go_wp2_with (go_at_call 47;refine (CD.out _ (Blk.at_ wr #[.pointer (some ⟨gb,0,none⟩),.pointer (some ⟨g1,k * 13,none⟩),I Z (k:Int),I Z 0,I Z 0,I Z 0,I Z 0,I Z 0,I Z 0,.bool false,I Z 0,I Z 0] _ _ rfl) (GG.out.alloc _)).mono ?_;rintro e w4 ⟨rfl,p3,c3,G2⟩)
   go_roundw
   case rel=>exact ⟨k + 1,rfl,HLT.out,p3,c3,G2⟩
   case measure=>have:=HLT.out;simp [intOf];omega
  ·obtain rfl:k=a.n:=by omega
   have hlt':decide ((a.n:Int) < (a.n:Int))=false:=decide_eq_false (by omega)
   clear hlt
   rw [← hq] at g
   have GG:=zH g
   clear g hq T OK AW G hl hl1 aw
   go_wp2_with fail
   exact bodyPost_end (results_none rfl _ _ _) rfl ⟨rfl,_,_,GG.out⟩
end Go.Proofs.YteimojoicfjdjaaGreat
