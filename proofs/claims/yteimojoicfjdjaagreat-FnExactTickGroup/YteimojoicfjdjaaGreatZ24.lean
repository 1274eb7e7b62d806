/- Parts of the proof: TgP. -/
import Derived.Test.YteimojoicfjdjaaGreatZ18
import Derived.Test.YteimojoicfjdjaaGreatZ21
import Derived.Test.YteimojoicfjdjaaGreatZ22
import Derived.Test.YteimojoicfjdjaaGreatZ23
namespace Go.Proofs.YteimojoicfjdjaaGreat
open Go.RowKit Pl
set_option linter.unusedSimpArgs false
set_option linter.unusedVariables false
def stB(h:Hs)(c:Cs)(f:Int):Bool:=(c.vel == 0) && Hs.near h c f
def startP(h:Hs)(hd:Bool)(n:Int × Int × Int)(c:Cs)(ph:Int):Int:=if ph=0∧hd=false∧n.1=0∧stB h c n.2.2=true then 1 else ph
def cmdP(h:Hs)(c:Cs)(ph:Int)(st:Bool)(aim:Int):Cm:=if ph=1 then ⟨0,false,true⟩ else if ph=2 then ⟨0,false,false⟩ else if st=true then ⟨0,true,false⟩ else Hs.forC h c aim
def endK(h:Hs)(c:Cs)(ph:Int):Int:=if ph=1∧c.door=h.dO then 2 else if ph=2∧c.door=0 then 0 else ph
def endL(h:Hs)(rc:Bool)(ps:List Pe)(sh ca:Int)(c:Cs)(ph:Int):List Pe:=
 if ph=1∧c.door=h.dO then (if rc=true then ps.map (outP sh ca (floor8 h c)) else boardS h.ld sh ca (floor8 h c) (ps.map (alightP sh ca (floor8 h c))) ps.length) else ps
def freeD(h:Hs)(d:Dk):Dk:=if d.hd=true∧d.sh.lo.vel=0∧d.sh.up.vel=0 then { d with hd:=false,sp:=Hs.sensed h d.sh } else d
def still8(d:Dk)(n0 n1:Int × Int × Int):Bool:=d.hd || decide (lead8 n0 n1 < 0)
def goal8(h:Hs)(s:Sh)(n0 n1:Int × Int × Int):Int × Int:=
 Hs.goals h s (lead8 n0 n1) (if lead8 n0 n1=0 then n0.2.2 else n1.2.2) (if lead8 n0 n1=0 then (if n1.1=0 then n1.2.2 else -2) else (if n0.1=0 then n0.2.2 else -2))
def spn8(h:Hs)(d:Dk)(n0 n1:Int × Int × Int):Ss:=if still8 d n0 n1=true then d.sp else extS d.sp (goal8 h d.sh n0 n1).1 (goal8 h d.sh n0 n1).2
def gol8(h:Hs)(d:Dk)(n0 n1:Int × Int × Int):Int × Int:=if still8 d n0 n1=true then (0,0) else goal8 h d.sh n0 n1
def mid8(h:Hs)(d:Dk)(n0 n1:Int × Int × Int)(dl du:Int):Dk:=
 let pl:=startP h d.hd n0 d.sh.lo d.pl
 let pu:=startP h d.hd n1 d.sh.up d.pu
 ⟨Hs.stepS h d.sh (cmdP h d.sh.lo pl (still8 d n0 n1) (aimS (spn8 h d n0 n1).l (gol8 h d n0 n1).1)) (cmdP h d.sh.up pu (still8 d n0 n1) (aimS (spn8 h d n0 n1).u (gol8 h d n0 n1).2)) dl du,spn8 h d n0 n1,pl,pu,d.hd⟩
def end8(h:Hs)(d:Dk):Dk:=⟨d.sh,if d.hd=true then d.sp else Hs.relS h d.sp d.sh,endK h d.sh.lo d.pl,endK h d.sh.up d.pu,d.hd⟩
def ppl8(h:Hs)(rc:Bool)(ps:List Pe)(i:Int)(d:Dk):List Pe:=endL h rc (endL h rc ps i 0 d.sh.lo d.pl) i 1 d.sh.up d.pu
structure DkOk(h:Hs)(d:Dk):Prop where
 s:h.shaft d.sh=0
 p:SpOk h d.sp
 l0:0≤d.pl
 l2:d.pl≤2
 u0:0≤d.pu
 u2:d.pu≤2
 dl:d.sh.lo.door ≠ 0→d.pl ≠ 0
 du:d.sh.up.door ≠ 0→d.pu ≠ 0
theorem deck_iff{h:Hs}{d:Dk}:Hs.deck h d=0 ↔ DkOk h d:=by
 unfold Hs.deck
 constructor
 ·intro e
  split at e
  case isFalse c=>exact absurd e c
  case isTrue c=>
   split at e
   case isFalse c2=>exact absurd e c2
   case isTrue c2=>
    split at e
    case isFalse=>omega
    case isTrue c3=>
     have a:=inB_iff.1 c3.1
     have b:=inB_iff.1 c3.2
     split at e
     case isTrue=>omega
     case isFalse c4=>
      unfold phB at c4
      refine ⟨c,spans_zero_iff.1 c2,a.1,a.2,b.1,b.2,fun q z=>c4 ?_,fun q z=>c4 ?_⟩
      ·simp [q,z]
      ·simp [q,z]
 ·intro k
  rw [if_pos k.s,if_pos (spans_zero_iff.2 k.p),if_pos ⟨inB_yes k.l0 k.l2,inB_yes k.u0 k.u2⟩,if_neg]
  intro c
  unfold phB at c
  simp only [Bool.or_eq_true,Bool.and_eq_true,bne_iff_ne,ne_eq,beq_iff_eq] at c
  rcases c with ⟨a,b⟩ | ⟨a,b⟩
  ·exact k.dl a b
  ·exact k.du a b
theorem shaft_house{h:Hs}{s:Sh}(e:h.shaft s=0):h.fault=0:=by
 obtain ⟨k1,_⟩:=shaft_parts e
 exact (Hs.car_zero k1).hf
theorem free_ok{h:Hs}{d:Dk}(k:DkOk h d):DkOk h (freeD h d):=by
 unfold freeD
 split
 ·exact ⟨k.s,sensed_ok (shaft_house k.s) _,k.l0,k.l2,k.u0,k.u2,k.dl,k.du⟩
 ·exact k
theorem start_bd{h:Hs}{hd:Bool}{n:Int × Int × Int}{c:Cs}{ph:Int}(a:0≤ph)(b:ph≤2):0≤startP h hd n c ph∧startP h hd n c ph≤2:=by
 unfold startP;split <;> omega
theorem start_door{h:Hs}{hd:Bool}{n:Int × Int × Int}{c:Cs}{ph:Int}(a:c.door ≠ 0→ph ≠ 0):c.door ≠ 0→startP h hd n c ph ≠ 0:=by
 unfold startP;split
 ·intro _;decide
 ·exact a
theorem end_bd{h:Hs}{c:Cs}{ph:Int}(a:0≤ph)(b:ph≤2):0≤endK h c ph∧endK h c ph≤2:=by
 unfold endK;split
 ·omega
 split <;> omega
theorem cmdP_ok{h:Hs}(hf:h.fault=0)(c:Cs)(ph:Int)(st:Bool)(aim:Int):h.cmd (cmdP h c ph st aim)=0:=by
 have o:=Hs.ok_of (Hs.fault_zero hf).1
 have p1:=o.pu1
 have key:∀ b q:Bool,(b && q)=false→h.cmd ⟨0,b,q⟩=0:=by
  intro b q e
  rw [Hs.cmd_ok hf]
  unfold Hs.cmdC Cm.bad
  rw [if_pos (inB_yes (by show -h.pu≤0;omega) (by show 0≤h.pu;omega))]
  simp [e]
 unfold cmdP
 split
 ·exact key _ _ rfl
 split
 ·exact key _ _ rfl
 split
 ·exact key _ _ rfl
 ·exact forC_ok hf c aim
theorem cmdP_opn{h:Hs}{c:Cs}{st:Bool}{aim:Int}:(cmdP h c 0 st aim).opn=false:=by
 unfold cmdP
 rw [if_neg (by decide),if_neg (by decide)]
 split
 ·rfl
 ·unfold Hs.forC
  split
  ·rfl
  split <;> rfl
theorem step_shut{h:Hs}{c:Cs}{x:Cm}{d:Int}(hc:c.door=0)(hx:x.opn=false):(stepC h c x d).door=0:=by
 unfold stepC
 rw [if_neg (by rw [hx];simp [hc])]
 split <;> exact hc
theorem brk_opn{c:Cs}{x:Cm}(hx:x.opn=false):(brkFor c x).opn=false:=by
 unfold brkFor;split
 ·exact hx
 ·rfl
theorem grd_opn1{h:Hs}{s:Sh}{a b:Cm}(ha:a.opn=false):(Hs.grd h s a b).1.opn=false:=by
 unfold Hs.grd
 split
 ·exact ha
 split
 ·exact brk_opn ha
 split
 ·exact ha
 ·exact brk_opn ha
theorem grd_opn2{h:Hs}{s:Sh}{a b:Cm}(hb:b.opn=false):(Hs.grd h s a b).2.opn=false:=by
 unfold Hs.grd
 split
 ·exact hb
 split
 ·exact hb
 split
 ·exact brk_opn hb
 ·exact brk_opn hb
def NeedIn(h:Hs)(n:Int × Int × Int):Prop:=n.1=0→0≤n.2.2∧n.2.2≤h.fl - 1
theorem lead_cases(a b:Int × Int × Int):lead8 a b=-1 ∨ (lead8 a b=0∧a.1=0) ∨ (lead8 a b=1∧b.1=0):=by
 unfold lead8
 by_cases x:a.1=0 <;> by_cases y:b.1=0 <;> simp [x,y]
 by_cases z:a.2.1 < b.2.1
 ·simp [z]
 ·simp [z]
  omega
theorem goal8_ok{h:Hs}(hf:h.fault=0){s:Sh}{n0 n1:Int × Int × Int}(q0:NeedIn h n0)(q1:NeedIn h n1)(hl:¬ lead8 n0 n1 < 0) :
  (goal8 h s n0 n1).1 < (goal8 h s n0 n1).2∧-1≤(goal8 h s n0 n1).1∧(goal8 h s n0 n1).2≤h.fl:=by
 have o:=Hs.ok_of (Hs.fault_zero hf).1
 have f1:=o.fl1
 unfold goal8
 rcases lead_cases n0 n1 with e | ⟨e,z⟩ | ⟨e,z⟩
 ·omega
 ·rw [e]
  have a:=q0 z
  refine goals_order o (by simpa using a.1) (by simpa using a.2) ?_ ?_
  ·simp only [if_true]
   split
   ·rename_i y;have:=q1 y;omega
   ·omega
  ·simp only [if_true]
   split
   ·rename_i y;have:=q1 y;omega
   ·omega
 ·rw [e]
  have a:=q1 z
  refine goals_order o (by simpa using a.1) (by simpa using a.2) ?_ ?_
  ·simp only [show ¬ (1:Int)=0 by decide,if_false]
   split
   ·rename_i y;have:=q0 y;omega
   ·omega
  ·simp only [show ¬ (1:Int)=0 by decide,if_false]
   split
   ·rename_i y;have:=q0 y;omega
   ·omega
theorem spn8_ok{h:Hs}{d:Dk}(k:DkOk h d){n0 n1:Int × Int × Int}(q0:NeedIn h n0)(q1:NeedIn h n1):SpOk h (spn8 h d n0 n1):=by
 unfold spn8
 split
 ·exact k.p
 ·rename_i c
  have hl:¬ lead8 n0 n1 < 0:=fun z=>c (by unfold still8;simp [z])
  obtain ⟨a,b,e⟩:=goal8_ok (s:=d.sh) (shaft_house k.s) q0 q1 hl
  exact extS_ok k.p b a e
theorem mid_ok{h:Hs}{d:Dk}(k:DkOk h d){n0 n1:Int × Int × Int}(q0:NeedIn h n0)(q1:NeedIn h n1){dl du:Int}(d1:-h.dr≤dl)(d2:dl≤h.dr)(e1:-h.dr≤du)(e2:du≤h.dr):DkOk h (mid8 h d n0 n1 dl du):=by
 have hf:=shaft_house k.s
 have a:=start_bd (h:=h) (hd:=d.hd) (n:=n0) (c:=d.sh.lo) k.l0 k.l2
 have b:=start_bd (h:=h) (hd:=d.hd) (n:=n1) (c:=d.sh.up) k.u0 k.u2
 unfold mid8
 refine ⟨stepS_ok k.s d1 d2 e1 e2,spn8_ok k q0 q1,a.1,a.2,b.1,b.2,?_,?_⟩
 ·intro q z
  dsimp only at q z
  have dz:d.sh.lo.door=0:=by
   by_cases y:d.sh.lo.door=0
   ·exact y
   ·exact absurd z (start_door k.dl y)
  rw [z] at q
  exact q (step_shut dz (grd_opn1 cmdP_opn))
 ·intro q z
  dsimp only at q z
  have dz:d.sh.up.door=0:=by
   by_cases y:d.sh.up.door=0
   ·exact y
   ·exact absurd z (start_door k.du y)
  rw [z] at q
  exact q (step_shut dz (grd_opn2 cmdP_opn))
theorem end_door{h:Hs}{c:Cs}{ph:Int}(a:c.door ≠ 0→ph ≠ 0):c.door ≠ 0→endK h c ph ≠ 0:=by
 intro q
 unfold endK
 split
 ·decide
 split
 ·rename_i z;exact absurd z.2 q
 ·exact a q
theorem end_ok{h:Hs}{d:Dk}(k:DkOk h d):DkOk h (end8 h d):=by
 have a:=end_bd (h:=h) (c:=d.sh.lo) k.l0 k.l2
 have b:=end_bd (h:=h) (c:=d.sh.up) k.u0 k.u2
 unfold end8
 refine ⟨k.s,?_,a.1,a.2,b.1,b.2,end_door k.dl,end_door k.du⟩
 dsimp only
 split
 ·exact k.p
 ·exact relS_ok _ k.p
/-! ### the people -/
theorem floor8_bd{h:Hs}(hf:h.fault=0)(c:Cs):0≤floor8 h c∧floor8 h c≤h.fl - 1:=by
 have o:=Hs.ok_of (Hs.fault_zero hf).1
 have f1:=o.fl1
 unfold floor8
 omega
theorem endL_ok{h:Hs}{nx:Int}{ps:List Pe}(k:LdOk h ⟨nx,ps⟩)(rc:Bool)(sh ca:Int)(c0:0≤sh∧sh≤2∧0≤ca∧ca≤1)(c:Cs)(ph:Int):LdOk h ⟨nx,endL h rc ps sh ca c ph⟩:=by
 unfold endL
 split
 ·split
  ·have b:=floor8_bd k.hf c
   exact led_out k sh ca _ b.1 b.2
  ·exact led_boardN (led_alight k sh ca _) sh ca _ c0 ps.length
 ·exact k
theorem endL_len(h:Hs)(rc:Bool)(ps:List Pe)(sh ca:Int)(c:Cs)(ph:Int):(endL h rc ps sh ca c ph).length=ps.length:=by
 unfold endL
 split
 ·split
  ·simp
  ·rw [boardS_len];simp
 ·rfl
theorem away_map{n:Nat}{l:List Pe}{f:Pe→Pe}(hf:∀ p,(f p).sh=p.sh):awayB n (l.map f)=awayB n l:=by
 unfold awayB
 rw [List.any_map]
 congr 1
 funext p
 show decide ((n:Int)≤(f p).sh)=_
 rw [hf]
theorem away_set{n:Nat}{l:List Pe}{k:Nat}{p q:Pe}(hp:l[k]? = some p)(hq:q.sh=p.sh):awayB n (l.set k q)=awayB n l:=by
 unfold awayB
 induction l generalizing k with
 | nil=>simp at hp
 | cons r l ih=>
  cases k with
  | zero=>
   simp at hp
   subst hp
   simp [hq]
  | succ k=>
   rw [List.set_cons_succ,List.any_cons,List.any_cons,ih (by simpa using hp)]
theorem away_board{n:Nat}(ld sh ca fl:Int)(l:List Pe):∀ k,awayB n (boardS ld sh ca fl l k)=awayB n l:=by
 intro k
 induction k with
 | zero=>rfl
 | succ k ih=>
  show awayB n (match (boardS ld sh ca fl l k)[k]? with | some p=>_ | none=>_)=_
  split
  ·rename_i p hp
   split
   ·rw [away_set hp (show (boardP p).sh=p.sh from rfl),ih]
   ·exact ih
  ·exact ih
theorem endL_away(n:Nat)(h:Hs)(rc:Bool)(ps:List Pe)(sh ca:Int)(c:Cs)(ph:Int):awayB n (endL h rc ps sh ca c ph)=awayB n ps:=by
 unfold endL
 split
 ·split
  ·exact away_map (fun p=>by unfold outP;split <;> rfl)
  ·rw [away_board,away_map (fun p=>by unfold alightP;split <;> rfl)]
 ·rfl
theorem ppl_ok{h:Hs}{nx:Int}{ps:List Pe}(k:LdOk h ⟨nx,ps⟩)(rc:Bool)(i:Int)(i0:0≤i)(i2:i≤2)(d:Dk):LdOk h ⟨nx,ppl8 h rc ps i d⟩:=
 endL_ok (endL_ok k rc i 0 ⟨i0,i2,by omega,by omega⟩ _ _) rc i 1 ⟨i0,i2,by omega,by omega⟩ _ _
theorem ppl_len(h:Hs)(rc:Bool)(ps:List Pe)(i:Int)(d:Dk):(ppl8 h rc ps i d).length=ps.length:=by
 unfold ppl8;rw [endL_len,endL_len]
theorem ppl_away(n:Nat)(h:Hs)(rc:Bool)(ps:List Pe)(i:Int)(d:Dk):awayB n (ppl8 h rc ps i d)=awayB n ps:=by
 unfold ppl8;rw [endL_away,endL_away]
end Go.Proofs.YteimojoicfjdjaaGreat
