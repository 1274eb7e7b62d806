/- Parts of the proof: PersJ, LedP. -/
import Derived.Test.YteimojoicfjdjaaGreatZ21
import Derived.Deep.RegionHeld3
namespace Go.Proofs.YteimojoicfjdjaaGreat
open Go.RowKit Pl
set_option linter.unusedSimpArgs false
set_option linter.unusedVariables false
theorem gr_drew{a c:World}{row:Option Nat}(h:a.grownBy c row):a.grownBy c.drew row:=⟨h.os,h.tape,h.output,h.size,h.block⟩
theorem gr_below{a b c:World}{row:Option Nat}(h:a.grownBy b row)(k:Below b.heap.size b c):a.grownBy c row:=⟨k.os.trans h.os,k.tape.trans h.tape,k.output.trans h.output,Nat.le_trans h.size k.size,fun i hi hne=>(k.block i (Nat.lt_of_lt_of_le hi h.size)).trans (h.block i hi hne)⟩
theorem HAt.grown{W w:World}{b:Nat}{h:Hs}{row:Option Nat}(a:HAt W b h)(hg:W.grownBy w row)(hne:some b ≠ row):HAt w b h:=by
 have hc:∀ o,w.cell? ⟨b,o,none⟩=W.cell? ⟨b,o,none⟩:=fun o=>World.cell?_of_block (w:=W) (hg.block b a.lt hne)
 exact ⟨(hc 0).trans a.c0,(hc 1).trans a.c1,(hc 2).trans a.c2,(hc 3).trans a.c3,(hc 4).trans a.c4,(hc 5).trans a.c5,(hc 6).trans a.c6,(hc 7).trans a.c7,(hc 8).trans a.c8,(hc 9).trans a.c9,(hc 10).trans a.c10,(hc 11).trans a.c11⟩
theorem Ow.lt{w:World}{B g n cap:Nat}{l:List Pe}(h:Ow w B g n cap l):g < w.heap.size:=h.bl.2
def boardP(p:Pe):Pe:=⟨p.id,p.fr,p.tw,p.sh,p.ca,1,p.pl⟩
def boardS(ld sh ca fl:Int)(l:List Pe):Nat→List Pe
 | 0=>l
 | k + 1=>match (boardS ld sh ca fl l k)[k]? with
  | some p=>if (p.sh=sh∧p.ca=ca∧p.st=0∧p.fr=fl)∧(cnt 1 sh ca (boardS ld sh ca fl l k):Int) < ld then (boardS ld sh ca fl l k).set k (boardP p) else boardS ld sh ca fl l k
  | none=>boardS ld sh ca fl l k
theorem boardS_next{ld sh ca fl:Int}{l m:List Pe}{k:Nat}{p:Pe}(h:boardS ld sh ca fl l k=m)(hp:m[k]? = some p):boardS ld sh ca fl l (k + 1)=if (p.sh=sh∧p.ca=ca∧p.st=0∧p.fr=fl)∧(cnt 1 sh ca m:Int) < ld then m.set k (boardP p) else m:=by
 show (match (boardS ld sh ca fl l k)[k]? with | some p=>_ | none=>_)=_
 rw [h,hp]
set_option linter.unusedSimpArgs false
set_option linter.unusedVariables false
theorem first_zero{h:Hs}{nx:Int}{l:List Pe}{last:Int}(e:Hs.first h nx last l=0):∀ (j:Nat) q,l[j]? = some q→Hs.pers h nx (if j=0 then last else lastId l j) q=0:=by
 induction l generalizing last with
 | nil=>intro j q hq;simp at hq
 | cons p l ih=>
  have e':(if Hs.pers h nx last p=0 then Hs.first h nx p.id l else Hs.pers h nx last p)=0:=e
  split at e'
  case isFalse c=>exact absurd e' c
  case isTrue c=>
   intro j q hq
   cases j with
   | zero=>
    simp at hq
    subst hq
    rw [if_pos rfl]
    exact c
   | succ j=>
    have z:=ih e' j q (by simpa using hq)
    rw [if_neg (by omega)]
    have el:(if j=0 then p.id else lastId l j)=lastId (p :: l) (j + 1):=by
     cases j with
     | zero=>simp [lastId]
     | succ j=>simp [lastId]
    rw [← el]
    exact z
structure LdOk(h:Hs)(x:Lg):Prop where
 hf:h.fault=0
 n1:1≤x.nx
 n2:x.nx≤1000000000000000
 len:x.ps.length≤60
 ps:∀ (j:Nat) q,x.ps[j]? = some q→Hs.pers h x.nx (if j=0 then 0 else lastId x.ps j) q=0
 qu:(cnt 0 (-1) 0 x.ps:Int)≤h.qu
 ld:∀ k,k < 6→(cnt 1 ((k / 2:Nat):Int) ((k % 2:Nat):Int) x.ps:Int)≤h.ld
theorem led_zero_iff{h:Hs}{x:Lg}:Hs.led h x=0 ↔ LdOk h x:=by
 unfold Hs.led
 constructor
 ·intro e
  split at e
  case isFalse c=>exact absurd e c
  case isTrue c=>
   unfold Hs.ledC at e
   split at e
   case isFalse=>cases e
   case isTrue r=>
    have rr:=inB_iff.1 r
    split at e
    case isTrue=>cases e
    case isFalse l=>
     split at e
     case isFalse f=>exact absurd e f
     case isTrue f=>
      split at e
      case isTrue=>cases e
      case isFalse q=>
       split at e
       case isTrue=>cases e
       case isFalse o=>
        refine ⟨c,rr.1,rr.2,by omega,first_zero f,by omega,fun k hk=>?_⟩
        have o':Hs.over h x.ps=false:=by simpa using o
        unfold Hs.over at o'
        rw [List.any_eq_false] at o'
        have:=o' k (List.mem_range.2 hk)
        simpa using this
 ·rintro ⟨hf,n1,n2,len,ps,qu,ld⟩
  rw [if_pos hf]
  unfold Hs.ledC
  have o:Hs.over h x.ps=false:=by
   unfold Hs.over
   rw [List.any_eq_false]
   intro k hk
   have:=ld k (List.mem_range.1 hk)
   simpa using this
  rw [if_pos (inB_yes n1 n2),if_neg (by omega),if_pos (first_all (fun j q _ hq=>ps j q hq)),if_neg (by omega),o]
  rfl
theorem persC_iff{h:Hs}{p:Pe}:Hs.persC h p=0 ↔ Hs.callC h p.fr p.tw=0∧inP h p=true∧badAt p=false:=by
 unfold Hs.persC
 constructor
 ·intro e
  split at e
  case isFalse c=>exact absurd e c
  case isTrue c=>
   split at e
   case isFalse=>cases e
   case isTrue r=>
    split at e
    case isTrue=>cases e
    case isFalse b=>exact ⟨c,r,by simpa using b⟩
 ·rintro ⟨a,b,c⟩
  rw [if_pos a,if_pos b,c]
  rfl
theorem pers_iff{h:Hs}{nx last:Int}{p:Pe}:Hs.pers h nx last p=0 ↔ inB p.id 1 (nx - 1)=true∧last < p.id∧Hs.persC h p=0:=by
 unfold Hs.pers
 constructor
 ·intro e
  split at e
  case isFalse=>cases e
  case isTrue c=>
   split at e
   case isTrue=>cases e
   case isFalse d=>exact ⟨c,by omega,e⟩
 ·rintro ⟨a,b,c⟩
  rw [if_pos a,if_neg (by omega)]
  exact c
theorem led_turn{h:Hs}{x:Lg}(k:LdOk h x)(m:List Pe)(hlen:m.length=x.ps.length)(hp:∀ (j:Nat) p q,x.ps[j]? = some p→m[j]? = some q→q.id=p.id∧Hs.persC h q=0)
  (qu:(cnt 0 (-1) 0 m:Int)≤h.qu) (ld:∀ k,k < 6→(cnt 1 ((k / 2:Nat):Int) ((k % 2:Nat):Int) m:Int)≤h.ld):LdOk h ⟨x.nx,m⟩:=by
 refine ⟨k.hf,k.n1,k.n2,by show m.length≤60;rw [hlen];exact k.len,fun j q hq=>?_,qu,ld⟩
 have hq':m[j]? = some q:=hq
 have hj:j < m.length:=(List.getElem?_eq_some_iff.1 hq').1
 obtain ⟨p,hpj⟩:∃ p,x.ps[j]? = some p:=⟨_,List.getElem?_eq_getElem (by omega)⟩
 obtain ⟨e1,e2⟩:=hp j p q hpj hq'
 obtain ⟨a,b,_⟩:=pers_iff.1 (k.ps j p hpj)
 have el:(if j=0 then 0 else lastId m j)=(if j=0 then 0 else lastId x.ps j):=by
  cases j with
  | zero=>rfl
  | succ j=>
   rw [if_neg (by omega),if_neg (by omega)]
   obtain ⟨p',hp'⟩:∃ p',x.ps[j]? = some p':=⟨_,List.getElem?_eq_getElem (by omega)⟩
   obtain ⟨q',hq''⟩:∃ q',m[j]? = some q':=⟨_,List.getElem?_eq_getElem (by omega)⟩
   simp only [lastId,hp',hq'']
   exact (hp j p' q' hp' hq'').1
 show Hs.pers h x.nx (if j=0 then 0 else lastId m j) q=0
 rw [el]
 exact pers_iff.2 ⟨by rw [e1];exact a,by rw [e1];exact b,e2⟩
theorem cnt_map_le{st sh ca:Int}{f:Pe→Pe}{l:List Pe}(h:∀ p ∈ l,isIn st sh ca (f p)=true→isIn st sh ca p=true):cnt st sh ca (l.map f)≤cnt st sh ca l:=by
 unfold cnt
 rw [List.countP_map]
 exact List.countP_mono_left h
theorem led_map{h:Hs}{x:Lg}(k:LdOk h x)(f:Pe→Pe)(hid:∀ p,(f p).id=p.id)(hp:∀ p,Hs.persC h p=0→Hs.persC h (f p)=0)
  (h0:∀ p,isIn 0 (-1) 0 (f p)=true→isIn 0 (-1) 0 p=true) (h1:∀ sh ca p,isIn 1 sh ca (f p)=true→isIn 1 sh ca p=true):LdOk h ⟨x.nx,x.ps.map f⟩:=by
 refine led_turn k _ (List.length_map ..) ?_ ?_ ?_
 ·intro j p q hj hq
  rw [List.getElem?_map,hj] at hq
  obtain rfl:f p=q:=by simpa using hq
  exact ⟨hid p,hp p (pers_iff.1 (k.ps j p hj)).2.2⟩
 ·have:=cnt_map_le (l:=x.ps) (fun p _=>h0 p)
  have:=k.qu
  omega
 ·intro i hi
  have:=cnt_map_le (l:=x.ps) (fun p _=>h1 ((i / 2:Nat):Int) ((i % 2:Nat):Int) p)
  have:=k.ld i hi
  omega
theorem inP_parts{h:Hs}{p:Pe}(e:inP h p=true):(0≤p.sh∧p.sh≤2)∧(0≤p.ca∧p.ca≤1)∧(0≤p.st∧p.st≤4)∧0≤p.pl∧p.pl≤h.fl - 1:=by
 unfold inP at e
 simp only [Bool.and_eq_true,inB_iff] at e
 exact e
theorem inP_mk{h:Hs}{p:Pe}(e:(0≤p.sh∧p.sh≤2)∧(0≤p.ca∧p.ca≤1)∧(0≤p.st∧p.st≤4)∧0≤p.pl∧p.pl≤h.fl - 1):inP h p=true:=by
 unfold inP
 simp only [Bool.and_eq_true,inB_iff]
 exact e
theorem callC_parts{h:Hs}{f t:Int}(e:Hs.callC h f t=0):(0≤f∧f≤h.fl - 1)∧0≤t∧t≤h.fl - 1:=by
 unfold Hs.callC at e
 split at e
 case isFalse=>cases e
 case isTrue c=>exact ⟨inB_iff.1 c.1,inB_iff.1 c.2⟩
theorem bad_pl{p:Pe}(e:badAt p=false)(h:p.st=0 ∨ p.st=1):p.pl=0:=by
 unfold badAt at e
 rcases h with h | h <;> simp [h] at e <;> exact e
theorem led_alight{h:Hs}{x:Lg}(k:LdOk h x)(sh ca fl:Int):LdOk h ⟨x.nx,x.ps.map (alightP sh ca fl)⟩:=by
 refine led_map k _ (fun p=>by unfold alightP;split <;> rfl) ?_ ?_ ?_
 ·intro p e
  obtain ⟨a,b,c⟩:=persC_iff.1 e
  unfold alightP
  split
  case isFalse=>exact e
  case isTrue z=>
   have q:=inP_parts b
   have f:=callC_parts a
   exact persC_iff.2 ⟨a,inP_mk (by dsimp only;omega),by simp [badAt,z.2.2.2]⟩
 ·intro p e
  unfold alightP at e
  split at e
  ·simp [isIn] at e
  ·exact e
 ·intro s c p e
  unfold alightP at e
  split at e
  ·simp [isIn] at e
  ·exact e
theorem led_out{h:Hs}{x:Lg}(k:LdOk h x)(sh ca fl:Int)(f0:0≤fl)(f1:fl≤h.fl - 1):LdOk h ⟨x.nx,x.ps.map (outP sh ca fl)⟩:=by
 refine led_map k _ (fun p=>by unfold outP;split <;> rfl) ?_ ?_ ?_
 ·intro p e
  obtain ⟨a,b,c⟩:=persC_iff.1 e
  unfold outP
  split
  case isFalse=>exact e
  case isTrue z=>
   have q:=inP_parts b
   exact persC_iff.2 ⟨a,inP_mk (by dsimp only;omega),by simp [badAt]⟩
 ·intro p e
  unfold outP at e
  split at e
  ·simp [isIn] at e
  ·exact e
 ·intro s c p e
  unfold outP at e
  split at e
  ·simp [isIn] at e
  ·exact e
theorem cnt_setP{st sh ca:Int}{l:List Pe}{i:Nat}{p q:Pe}(hp:l[i]? = some p):cnt st sh ca (l.set i q) + (if isIn st sh ca p=true then 1 else 0)=cnt st sh ca l + (if isIn st sh ca q=true then 1 else 0):=by
 have hi:i < l.length:=(List.getElem?_eq_some_iff.1 hp).1
 have e:l[i]=p:=(List.getElem?_eq_some_iff.1 hp).2
 unfold cnt
 have a:l=l.take i ++ p :: l.drop (i + 1):=by rw [← e,← List.drop_eq_getElem_cons hi,List.take_append_drop]
 have b:l.set i q=l.take i ++ q :: l.drop (i + 1):=List.set_eq_take_append_cons_drop .. |>.trans (by rw [if_pos hi])
 rw [b]
 conv=>rhs;rw [a]
 simp only [List.countP_append,List.countP_cons]
 omega
theorem boardS_len(ld sh ca fl:Int)(l:List Pe)(k:Nat):(boardS ld sh ca fl l k).length=l.length:=by
 induction k with
 | zero=>rfl
 | succ k ih=>
  unfold boardS
  split
  ·split
   ·rw [List.length_set,ih]
   ·exact ih
  ·exact ih
theorem led_boardN{h:Hs}{x:Lg}(k:LdOk h x)(sh ca fl:Int)(c0:0≤sh∧sh≤2∧0≤ca∧ca≤1)(n:Nat):LdOk h ⟨x.nx,boardS h.ld sh ca fl x.ps n⟩:=by
 induction n with
 | zero=>exact k
 | succ n ih=>
  unfold boardS
  split
  case h_2=>exact ih
  case h_1 p hp=>
   split
   case isFalse=>exact ih
   case isTrue z=>
    obtain ⟨⟨z1,z2,z3,z4⟩,z5⟩:=z
    have hp':(⟨x.nx,boardS h.ld sh ca fl x.ps n⟩:Lg).ps[n]? = some p:=hp
    refine led_turn ih _ (List.length_set ..) ?_ ?_ ?_
    ·intro j r q hr hq
     by_cases ej:n=j
     ·subst ej
      have hi:n < (boardS h.ld sh ca fl x.ps n).length:=(List.getElem?_eq_some_iff.1 hp).1
      rw [List.getElem?_set_self hi] at hq
      rw [hp'] at hr
      obtain rfl:p=r:=by simpa using hr
      obtain rfl:boardP p=q:=by simpa using hq
      obtain ⟨a,b,c⟩:=persC_iff.1 (pers_iff.1 (ih.ps n p hp')).2.2
      have pz:=bad_pl c (Or.inl z3)
      have q:=inP_parts b
      exact ⟨rfl,persC_iff.2 ⟨a,inP_mk (by unfold boardP;dsimp only;omega),by simp [badAt,boardP,pz]⟩⟩
     ·rw [List.getElem?_set_ne ej] at hq
      have hr':(boardS h.ld sh ca fl x.ps n)[j]? = some r:=hr
      rw [hr'] at hq
      obtain rfl:r=q:=by simpa using hq
      exact ⟨rfl,(pers_iff.1 (ih.ps j r hr)).2.2⟩
    ·have a:=cnt_setP (st:=0) (sh:=-1) (ca:=0) (q:=boardP p) hp
     have b:isIn 0 (-1) 0 (boardP p)=false:=by simp [isIn,boardP]
     rw [b] at a
     have c:=ih.qu
     simp only [Bool.false_eq_true,if_false] at a
     have c':(cnt 0 (-1) 0 (boardS h.ld sh ca fl x.ps n):Int)≤h.qu:=c
     omega
    ·intro i hi
     have a:=cnt_setP (st:=1) (sh:=((i / 2:Nat):Int)) (ca:=((i % 2:Nat):Int)) (q:=boardP p) hp
     have c:(cnt 1 ((i / 2:Nat):Int) ((i % 2:Nat):Int) (boardS h.ld sh ca fl x.ps n):Int)≤h.ld:=ih.ld i hi
     have n0:(0:Int)≤((i / 2:Nat):Int):=by omega
     show (cnt 1 ((i / 2:Nat):Int) ((i % 2:Nat):Int) ((boardS h.ld sh ca fl x.ps n).set n (boardP p)):Int)≤h.ld
     generalize ((i / 2:Nat):Int)=s1 at a c n0 ⊢
     generalize ((i % 2:Nat):Int)=s2 at a c ⊢
     by_cases e:s1=sh∧s2=ca
     ·rw [e.1,e.2] at a c ⊢
      split at a <;> split at a <;> omega
     ·have b:isIn 1 s1 s2 (boardP p)=false:=by
       have e1:(boardP p).sh=sh:=z1
       have e2:(boardP p).ca=ca:=z2
       unfold isIn
       rw [e1,e2]
       have n1:¬ (s1 < 0):=by omega
       have e3:(sh == s1 && ca == s2)=false:=by
        simp only [Bool.and_eq_false_iff,beq_eq_false_iff_ne]
        by_cases q:sh=s1
        ·exact Or.inr (fun h2=>e ⟨q.symm,h2.symm⟩)
        ·exact Or.inl q
       rw [e3]
       simp [n1]
      rw [b] at a
      simp only [Bool.false_eq_true,if_false] at a
      omega
end Go.Proofs.YteimojoicfjdjaaGreat
