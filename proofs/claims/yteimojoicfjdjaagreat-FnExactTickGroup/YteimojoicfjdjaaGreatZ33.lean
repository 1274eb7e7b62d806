/- Parts of the proof: PersHo, SpanE, LedF, SpanL, OpenI, OpenC, OpenL, OpenG. -/
import Derived.Test.YteimojoicfjdjaaGreatZ6
import Derived.Test.YteimojoicfjdjaaGreatZ16
import Derived.Test.YteimojoicfjdjaaGreatZ18
import Derived.Laws.CopyRow
import Derived.Laws.IdiomCopy
import Derived.OwnWalk
import Derived.Maps.RangeWalk
import Derived.DeepKeys4
import Derived.WalkKit
import Derived.ProofKit
import Derived.OpenShut
import Derived.Lib.SmallJoins
import Derived.ChangeArms
import Derived.Deep.Slices
namespace Go.Proofs.YteimojoicfjdjaaGreat
set_option maxRecDepth 20000
set_option maxHeartbeats 16000000
open Value renaming int → I
open IntKind renaming i64 → Z
open Go.RowKit Pl
set_option linter.unusedSimpArgs false
set_option linter.unusedVariables false
theorem l7Alight_anyO(lb lo:Nat)(nx:Int)(B g n cap:Nat)(l:List Pe)(sh:Int)(ca:Int)(fl:Int)(hl:n≤1048576)(hne:lb ≠ g)(w:World)(hL:LAo w lb lo nx (some ⟨g,0,none⟩) n cap)(h:Ow w B g n cap l) :
  Calls Tryz.prog 116 #[.pointer (some ⟨lb,lo,none⟩),I Z sh,I Z ca,I Z fl] w fun e w'=>e=.returned (.tuple #[])∧Ow w' B g n cap (l.map (alightP sh ca fl))∧w.grownBy w' (some g):=by
 have hn:=h.1
 have HL:=zH hL
 have HO:=zH h
 clear hL h
 go_enter Tryz.func116,Tryz.ntmps116
 go_wp2_with fail
 go_loopw [8] (fun ii wr=>∃ i:Nat,ii=I Z i∧i≤n∧Ow wr B g n cap ((l.take i).map (alightP sh ca fl) ++ l.drop i)∧w.grownBy wr (some g)) (fun ii _=>n - (intOf ii).toNat)
 case atStart=>exact ⟨0,rfl,by omega,by simpa using HO.out,World.grownBy.refl w _⟩
 case round=>
  obtain ⟨i,rfl,hi,ho,hg⟩:=hrel
  have FO:=zH ho
  have FG:=zH hg
  have LA:Hid (LAo wr lb lo nx (some ⟨g,0,none⟩) n cap):=HL.out.grown hg (fun e=>hne (Option.some.inj e))
  obtain ⟨g0,g1⟩:=LA.out
  have nel:g ≠ lb:=fun e=>hne e.symm
  clear ho hg HO
  by_cases hlt:i < n
  ·obtain ⟨p,hp⟩:∃ p,l[i]? = some p:=⟨_,List.getElem?_eq_getElem (by omega)⟩
   have hz:((l.take i).map (alightP sh ca fl) ++ l.drop i)[i]? = some p:=turn_at hp
   have lg:=FO.out.bl.2
   have ng:=Nat.ne_of_gt lg
   obtain ⟨d0,d1,d2,d3,d4,d5,d6⟩:=FO.out.p7 hz
   have fz5:=FO.out.fz (i * 7 + 5)
   have fz6:=FO.out.fz (i * 7 + 6)
   obtain ⟨e0,e1,e2,e3,e4,e5,e6⟩:=(FO.out.alloc (.cells #[I Z p.id,I Z p.fr,I Z p.tw,I Z p.sh,I Z p.ca,I Z p.st,I Z p.pl] 79)).p7 hz
   have fy5:=(FO.out.alloc (.cells #[I Z p.id,I Z p.fr,I Z p.tw,I Z p.sh,I Z p.ca,I Z p.st,I Z p.pl] 79)).fz (i * 7 + 5)
   have fy6:=(FO.out.alloc (.cells #[I Z p.id,I Z p.fr,I Z p.tw,I Z p.sh,I Z p.ca,I Z p.st,I Z p.pl] 79)).fz (i * 7 + 6)
   obtain ⟨ga0,ga1⟩:=LA.out.below ((Below.refl _ _).alloc (Nat.le_refl _) (.cells #[I Z p.id,I Z p.fr,I Z p.tw,I Z p.sh,I Z p.ca,I Z p.st,I Z p.pl] 79)) LA.out.lt
   cases k0:(p.sh == sh)
   ·have fp:(alightP sh ca fl) p=p:=by
     unfold alightP
     exact if_neg (fun q=>by simp [q] at k0)
    have HE:Hid ((l.take i).map (alightP sh ca fl) ++ l.drop i=(l.take (i + 1)).map (alightP sh ca fl) ++ l.drop (i + 1)):=turn_keep hp fp
    clear fp hp hz
    go_wp2_with fail
    go_roundw
    case rel=>exact ⟨i + 1,by simp,by omega,HE.out ▸ (FO.out.alloc (.cells #[I Z p.id,I Z p.fr,I Z p.tw,I Z p.sh,I Z p.ca,I Z p.st,I Z p.pl] 79)),grown_trans FG.out (grown_new wr _ g)⟩
    case measure=>simp [intOf];omega
   ·cases k1:(p.ca == ca)
    ·have fp:(alightP sh ca fl) p=p:=by
      unfold alightP
      exact if_neg (fun q=>by simp [q] at k1)
     have HE:Hid ((l.take i).map (alightP sh ca fl) ++ l.drop i=(l.take (i + 1)).map (alightP sh ca fl) ++ l.drop (i + 1)):=turn_keep hp fp
     clear fp hp hz
     go_wp2_with fail
     go_roundw
     case rel=>exact ⟨i + 1,by simp,by omega,HE.out ▸ (FO.out.alloc (.cells #[I Z p.id,I Z p.fr,I Z p.tw,I Z p.sh,I Z p.ca,I Z p.st,I Z p.pl] 79)),grown_trans FG.out (grown_new wr _ g)⟩
     case measure=>simp [intOf];omega
    ·cases k2:(p.st == 1)
     ·have fp:(alightP sh ca fl) p=p:=by
       unfold alightP
       exact if_neg (fun q=>by simp [q] at k2)
      have HE:Hid ((l.take i).map (alightP sh ca fl) ++ l.drop i=(l.take (i + 1)).map (alightP sh ca fl) ++ l.drop (i + 1)):=turn_keep hp fp
      clear fp hp hz
      go_wp2_with fail
      go_roundw
      case rel=>exact ⟨i + 1,by simp,by omega,HE.out ▸ (FO.out.alloc (.cells #[I Z p.id,I Z p.fr,I Z p.tw,I Z p.sh,I Z p.ca,I Z p.st,I Z p.pl] 79)),grown_trans FG.out (grown_new wr _ g)⟩
      case measure=>simp [intOf];omega
     ·cases k3:(p.tw == fl)
      ·have fp:(alightP sh ca fl) p=p:=by
        unfold alightP
        exact if_neg (fun q=>by simp [q] at k3)
       have HE:Hid ((l.take i).map (alightP sh ca fl) ++ l.drop i=(l.take (i + 1)).map (alightP sh ca fl) ++ l.drop (i + 1)):=turn_keep hp fp
       clear fp hp hz
       go_wp2_with fail
       go_roundw
       case rel=>exact ⟨i + 1,by simp,by omega,HE.out ▸ (FO.out.alloc (.cells #[I Z p.id,I Z p.fr,I Z p.tw,I Z p.sh,I Z p.ca,I Z p.st,I Z p.pl] 79)),grown_trans FG.out (grown_new wr _ g)⟩
       case measure=>simp [intOf];omega
      ·have fp:(alightP sh ca fl) p=⟨p.id,p.fr,p.tw,p.sh,p.ca,2,fl⟩:=by
        unfold alightP
        exact if_pos (⟨by simpa using k0,by simpa using k1,by simpa using k2,by simpa using k3⟩)
       have HE:Hid (((l.take i).map (alightP sh ca fl) ++ l.drop i).set i ⟨p.id,p.fr,p.tw,p.sh,p.ca,2,fl⟩=(l.take (i + 1)).map (alightP sh ca fl) ++ l.drop (i + 1)):=fp ▸ turn_set hp
       clear fp hp
       have HS:Hid (Ow ((((wr).setCell ⟨g,i * 7 + 5,none⟩ (I Z 2)).setCell ⟨g,i * 7 + 6,none⟩ (I Z fl)).alloc (.cells #[I Z p.id,I Z p.fr,I Z p.tw,I Z p.sh,I Z p.ca,I Z p.st,I Z p.pl] 79)) B g n cap ((l.take (i + 1)).map (alightP sh ca fl) ++ l.drop (i + 1))):=by
        have s:=(((FO.out.set (k:=5) (u:=I Z 2) (q:=⟨p.id,p.fr,p.tw,p.sh,p.ca,2,p.pl⟩) hz (by omega) rfl).set (k:=6) (u:=I Z fl) (q:=⟨p.id,p.fr,p.tw,p.sh,p.ca,2,fl⟩) (get_set hz) (by omega) rfl).alloc (.cells #[I Z p.id,I Z p.fr,I Z p.tw,I Z p.sh,I Z p.ca,I Z p.st,I Z p.pl] 79))
        try simp only [List.set_set] at s
        rw [HE.out] at s
        exact s
       have M1:=(FO.out.set (k:=5) (u:=I Z 2) (q:=⟨p.id,p.fr,p.tw,p.sh,p.ca,2,p.pl⟩) hz (by omega) rfl).alloc (.cells #[I Z p.id,I Z p.fr,I Z p.tw,I Z p.sh,I Z p.ca,I Z p.st,I Z p.pl] 79)
       obtain ⟨u0,u1,u2,u3,u4,u5,u6⟩:=M1.p7 (get_set hz)
       have uz:=M1.fz (i * 7 + 6)
       obtain ⟨v0_,v1_⟩:=(LAo.mk ((cellS (o:=i * 7 + 5) (v:=I Z 2) hne).trans LA.out.c0) ((cellS (o:=i * 7 + 5) (v:=I Z 2) hne).trans LA.out.c1):LAo (wr.setCell ⟨g,i * 7 + 5,none⟩ (I Z 2)) lb lo nx (some ⟨g,0,none⟩) n cap).below ((Below.refl _ _).alloc (Nat.le_refl _) (.cells #[I Z p.id,I Z p.fr,I Z p.tw,I Z p.sh,I Z p.ca,I Z p.st,I Z p.pl] 79)) (by simp;exact LA.out.lt)
       try dsimp only at u0 u1 u2 u3 u4 u5 u6
       clear M1
       clear hz HE
       go_wp2_with fail
       go_roundw
       case rel=>exact ⟨i + 1,by simp,by omega,HS.out,grown_trans (grown_trans (grown_trans (FG.out) (grown_set1 _ g _ _)) (grown_set1 _ g _ _)) (grown_new _ (.cells #[I Z p.id,I Z p.fr,I Z p.tw,I Z p.sh,I Z p.ca,I Z p.st,I Z p.pl] 79) g)⟩
       case measure=>simp [intOf];omega
  ·have ei:i=n:=by omega
   subst ei
   have HM:Hid (Ow wr B g i cap (l.map (alightP sh ca fl))):=by
    have q:=FO.out
    rw [List.drop_eq_nil_of_le (by omega),List.append_nil,List.take_of_length_le (by omega)] at q
    exact q
   clear FO
   go_wp2_with fail
   go_end0
   exact ⟨rfl,HM.out,FG.out⟩
theorem l7Out_anyO(lb lo:Nat)(nx:Int)(B g n cap:Nat)(l:List Pe)(sh:Int)(ca:Int)(fl:Int)(hl:n≤1048576)(hne:lb ≠ g)(w:World)(hL:LAo w lb lo nx (some ⟨g,0,none⟩) n cap)(h:Ow w B g n cap l) :
  Calls Tryz.prog 115 #[.pointer (some ⟨lb,lo,none⟩),I Z sh,I Z ca,I Z fl] w fun e w'=>e=.returned (.tuple #[])∧Ow w' B g n cap (l.map (outP sh ca fl))∧w.grownBy w' (some g):=by
 have hn:=h.1
 have HL:=zH hL
 have HO:=zH h
 clear hL h
 go_enter Tryz.func115,Tryz.ntmps115
 go_wp2_with fail
 go_loopw [8] (fun ii wr=>∃ i:Nat,ii=I Z i∧i≤n∧Ow wr B g n cap ((l.take i).map (outP sh ca fl) ++ l.drop i)∧w.grownBy wr (some g)) (fun ii _=>n - (intOf ii).toNat)
 case atStart=>exact ⟨0,rfl,by omega,by simpa using HO.out,World.grownBy.refl w _⟩
 case round=>
  obtain ⟨i,rfl,hi,ho,hg⟩:=hrel
  have FO:=zH ho
  have FG:=zH hg
  have LA:Hid (LAo wr lb lo nx (some ⟨g,0,none⟩) n cap):=HL.out.grown hg (fun e=>hne (Option.some.inj e))
  obtain ⟨g0,g1⟩:=LA.out
  have nel:g ≠ lb:=fun e=>hne e.symm
  clear ho hg HO
  by_cases hlt:i < n
  ·obtain ⟨p,hp⟩:∃ p,l[i]? = some p:=⟨_,List.getElem?_eq_getElem (by omega)⟩
   have hz:((l.take i).map (outP sh ca fl) ++ l.drop i)[i]? = some p:=turn_at hp
   have lg:=FO.out.bl.2
   have ng:=Nat.ne_of_gt lg
   obtain ⟨d0,d1,d2,d3,d4,d5,d6⟩:=FO.out.p7 hz
   have fz5:=FO.out.fz (i * 7 + 5)
   have fz6:=FO.out.fz (i * 7 + 6)
   obtain ⟨e0,e1,e2,e3,e4,e5,e6⟩:=(FO.out.alloc (.cells #[I Z p.id,I Z p.fr,I Z p.tw,I Z p.sh,I Z p.ca,I Z p.st,I Z p.pl] 79)).p7 hz
   have fy5:=(FO.out.alloc (.cells #[I Z p.id,I Z p.fr,I Z p.tw,I Z p.sh,I Z p.ca,I Z p.st,I Z p.pl] 79)).fz (i * 7 + 5)
   have fy6:=(FO.out.alloc (.cells #[I Z p.id,I Z p.fr,I Z p.tw,I Z p.sh,I Z p.ca,I Z p.st,I Z p.pl] 79)).fz (i * 7 + 6)
   obtain ⟨ga0,ga1⟩:=LA.out.below ((Below.refl _ _).alloc (Nat.le_refl _) (.cells #[I Z p.id,I Z p.fr,I Z p.tw,I Z p.sh,I Z p.ca,I Z p.st,I Z p.pl] 79)) LA.out.lt
   cases k0:(p.sh == sh)
   ·have fp:(outP sh ca fl) p=p:=by
     unfold outP
     exact if_neg (fun q=>by simp [q] at k0)
    have HE:Hid ((l.take i).map (outP sh ca fl) ++ l.drop i=(l.take (i + 1)).map (outP sh ca fl) ++ l.drop (i + 1)):=turn_keep hp fp
    clear fp hp hz
    go_wp2_with fail
    go_roundw
    case rel=>exact ⟨i + 1,by simp,by omega,HE.out ▸ (FO.out.alloc (.cells #[I Z p.id,I Z p.fr,I Z p.tw,I Z p.sh,I Z p.ca,I Z p.st,I Z p.pl] 79)),grown_trans FG.out (grown_new wr _ g)⟩
    case measure=>simp [intOf];omega
   ·cases k1:(p.ca == ca)
    ·have fp:(outP sh ca fl) p=p:=by
      unfold outP
      exact if_neg (fun q=>by simp [q] at k1)
     have HE:Hid ((l.take i).map (outP sh ca fl) ++ l.drop i=(l.take (i + 1)).map (outP sh ca fl) ++ l.drop (i + 1)):=turn_keep hp fp
     clear fp hp hz
     go_wp2_with fail
     go_roundw
     case rel=>exact ⟨i + 1,by simp,by omega,HE.out ▸ (FO.out.alloc (.cells #[I Z p.id,I Z p.fr,I Z p.tw,I Z p.sh,I Z p.ca,I Z p.st,I Z p.pl] 79)),grown_trans FG.out (grown_new wr _ g)⟩
     case measure=>simp [intOf];omega
    ·cases k2:(p.st == 1)
     ·have fp:(outP sh ca fl) p=p:=by
       unfold outP
       exact if_neg (fun q=>by simp [q] at k2)
      have HE:Hid ((l.take i).map (outP sh ca fl) ++ l.drop i=(l.take (i + 1)).map (outP sh ca fl) ++ l.drop (i + 1)):=turn_keep hp fp
      clear fp hp hz
      go_wp2_with fail
      go_roundw
      case rel=>exact ⟨i + 1,by simp,by omega,HE.out ▸ (FO.out.alloc (.cells #[I Z p.id,I Z p.fr,I Z p.tw,I Z p.sh,I Z p.ca,I Z p.st,I Z p.pl] 79)),grown_trans FG.out (grown_new wr _ g)⟩
      case measure=>simp [intOf];omega
     ·have fp:(outP sh ca fl) p=⟨p.id,p.fr,p.tw,p.sh,p.ca,3,fl⟩:=by
       unfold outP
       exact if_pos (⟨by simpa using k0,by simpa using k1,by simpa using k2⟩)
      have HE:Hid (((l.take i).map (outP sh ca fl) ++ l.drop i).set i ⟨p.id,p.fr,p.tw,p.sh,p.ca,3,fl⟩=(l.take (i + 1)).map (outP sh ca fl) ++ l.drop (i + 1)):=fp ▸ turn_set hp
      clear fp hp
      have HS:Hid (Ow ((((wr).setCell ⟨g,i * 7 + 5,none⟩ (I Z 3)).setCell ⟨g,i * 7 + 6,none⟩ (I Z fl)).alloc (.cells #[I Z p.id,I Z p.fr,I Z p.tw,I Z p.sh,I Z p.ca,I Z p.st,I Z p.pl] 79)) B g n cap ((l.take (i + 1)).map (outP sh ca fl) ++ l.drop (i + 1))):=by
       have s:=(((FO.out.set (k:=5) (u:=I Z 3) (q:=⟨p.id,p.fr,p.tw,p.sh,p.ca,3,p.pl⟩) hz (by omega) rfl).set (k:=6) (u:=I Z fl) (q:=⟨p.id,p.fr,p.tw,p.sh,p.ca,3,fl⟩) (get_set hz) (by omega) rfl).alloc (.cells #[I Z p.id,I Z p.fr,I Z p.tw,I Z p.sh,I Z p.ca,I Z p.st,I Z p.pl] 79))
       try simp only [List.set_set] at s
       rw [HE.out] at s
       exact s
      have M1:=(FO.out.set (k:=5) (u:=I Z 3) (q:=⟨p.id,p.fr,p.tw,p.sh,p.ca,3,p.pl⟩) hz (by omega) rfl).alloc (.cells #[I Z p.id,I Z p.fr,I Z p.tw,I Z p.sh,I Z p.ca,I Z p.st,I Z p.pl] 79)
      obtain ⟨u0,u1,u2,u3,u4,u5,u6⟩:=M1.p7 (get_set hz)
      have uz:=M1.fz (i * 7 + 6)
      obtain ⟨v0_,v1_⟩:=(LAo.mk ((cellS (o:=i * 7 + 5) (v:=I Z 3) hne).trans LA.out.c0) ((cellS (o:=i * 7 + 5) (v:=I Z 3) hne).trans LA.out.c1):LAo (wr.setCell ⟨g,i * 7 + 5,none⟩ (I Z 3)) lb lo nx (some ⟨g,0,none⟩) n cap).below ((Below.refl _ _).alloc (Nat.le_refl _) (.cells #[I Z p.id,I Z p.fr,I Z p.tw,I Z p.sh,I Z p.ca,I Z p.st,I Z p.pl] 79)) (by simp;exact LA.out.lt)
      try dsimp only at u0 u1 u2 u3 u4 u5 u6
      clear M1
      clear hz HE
      go_wp2_with fail
      go_roundw
      case rel=>exact ⟨i + 1,by simp,by omega,HS.out,grown_trans (grown_trans (grown_trans (FG.out) (grown_set1 _ g _ _)) (grown_set1 _ g _ _)) (grown_new _ (.cells #[I Z p.id,I Z p.fr,I Z p.tw,I Z p.sh,I Z p.ca,I Z p.st,I Z p.pl] 79) g)⟩
      case measure=>simp [intOf];omega
  ·have ei:i=n:=by omega
   subst ei
   have HM:Hid (Ow wr B g i cap (l.map (outP sh ca fl))):=by
    have q:=FO.out
    rw [List.drop_eq_nil_of_le (by omega),List.append_nil,List.take_of_length_le (by omega)] at q
    exact q
   clear FO
   go_wp2_with fail
   go_end0
   exact ⟨rfl,HM.out,FG.out⟩
set_option linter.unusedSimpArgs false
set_option linter.unusedVariables false
theorem covLo_yes{h:Hs}{low z:Int}(z1:-1≤z)(k:h.level z - h.lv≤low):Hs.covLo h low (z + 1 + 1).toNat=z:=by
 have e:(z + 1 + 1).toNat=(z + 1).toNat + 1:=by omega
 have f:(((z + 1).toNat:Nat):Int) - 1=z:=by omega
 rw [e];show (if _ then _ else _)=z
 rw [f,if_pos k]
theorem covLo_no{h:Hs}{low z:Int}(z1:-1≤z)(k:¬ h.level z - h.lv≤low):Hs.covLo h low (z + 1 + 1).toNat=Hs.covLo h low (z + 1).toNat:=by
 have e:(z + 1 + 1).toNat=(z + 1).toNat + 1:=by omega
 have f:(((z + 1).toNat:Nat):Int) - 1=z:=by omega
 rw [e];show (if _ then _ else _)=_
 rw [f,if_neg k]
theorem covHi_yes{h:Hs}{high z:Int}(z1:z≤h.fl)(k:high≤h.level z + h.lv):Hs.covHi h high (h.fl - (z - 1)).toNat=z:=by
 have e:(h.fl - (z - 1)).toNat=(h.fl - z).toNat + 1:=by omega
 have f:h.fl - (((h.fl - z).toNat:Nat):Int)=z:=by omega
 rw [e];show (if _ then _ else _)=z
 rw [f,if_pos k]
theorem covHi_no{h:Hs}{high z:Int}(z1:z≤h.fl)(k:¬ high≤h.level z + h.lv):Hs.covHi h high (h.fl - (z - 1)).toNat=Hs.covHi h high (h.fl - z).toNat:=by
 have e:(h.fl - (z - 1)).toNat=(h.fl - z).toNat + 1:=by omega
 have f:h.fl - (((h.fl - z).toNat:Nat):Int)=z:=by omega
 rw [e];show (if _ then _ else _)=_
 rw [f,if_neg k]
theorem l6Cover_any(h:Hs)(c:Cs)(k:CarOk h c)(g:Sp)(hg:Hs.cover h c=g)(w:World) :
  Calls Tryz.prog 119 #[.agg #[I Z h.fl,I Z h.gp,I Z h.ln,I Z h.rf,I Z h.sp,I Z h.pu,I Z h.br,I Z h.dr,I Z h.lv,I Z h.dO,I Z h.ld,I Z h.qu],.agg #[I Z c.pos,I Z c.vel,I Z c.door]] w fun e w'=>e=.returned (.agg #[I Z g.lo,I Z g.hi])∧Below w.heap.size w w':=by
 have o:=k.ok
 have en:=car_env k
 have f1:=o.fl1;have f2:=o.fl2;have v1:=o.lv1;have v2:=o.lv2
 obtain ⟨lw,hlw⟩:∃ lw,h.lo c.pos c.vel=lw:=⟨_,rfl⟩
 obtain ⟨hg_,hhg⟩:∃ hg_,h.hi c.pos c.vel=hg_:=⟨_,rfl⟩
 unfold Hs.cover at hg
 rw [hlw,hhg] at hg
 have HGv:=zH hg
 have HLW:=zH hlw
 have HHG:=zH hhg
 have HO:Hid h.Ok:=o
 clear o k hlw hhg hg
 have F0:Hid (HAt (((w.alloc (.cells #[I Z h.fl,I Z h.gp,I Z h.ln,I Z h.rf,I Z h.sp,I Z h.pu,I Z h.br,I Z h.dr,I Z h.lv,I Z h.dO,I Z h.ld,I Z h.qu] 31)).alloc (.cells #[I Z c.pos,I Z c.vel,I Z c.door] 65)).alloc (.cells #[I Z 0,I Z 0] 69)) w.heap.size h):=((HAt.at_ w h _ _ (by simp)).alloc _).alloc _
 have F1:Hid (CW (((w.alloc (.cells #[I Z h.fl,I Z h.gp,I Z h.ln,I Z h.rf,I Z h.sp,I Z h.pu,I Z h.br,I Z h.dr,I Z h.lv,I Z h.dO,I Z h.ld,I Z h.qu] 31)).alloc (.cells #[I Z c.pos,I Z c.vel,I Z c.door] 65)).alloc (.cells #[I Z 0,I Z 0] 69)) (w.heap.size + 1) c):=(CW.at_ _ c _ _ (by simp)).alloc _
 have F2:Hid (MW (((w.alloc (.cells #[I Z h.fl,I Z h.gp,I Z h.ln,I Z h.rf,I Z h.sp,I Z h.pu,I Z h.br,I Z h.dr,I Z h.lv,I Z h.dO,I Z h.ld,I Z h.qu] 31)).alloc (.cells #[I Z c.pos,I Z c.vel,I Z c.door] 65)).alloc (.cells #[I Z 0,I Z 0] 69)) (w.heap.size + 2) (⟨0,0⟩:Sp)):=MW.at_ _ ⟨0,0⟩ _ _ (by simp)
 have FB:Hid (Below w.heap.size w (((w.alloc (.cells #[I Z h.fl,I Z h.gp,I Z h.ln,I Z h.rf,I Z h.sp,I Z h.pu,I Z h.br,I Z h.dr,I Z h.lv,I Z h.dO,I Z h.ld,I Z h.qu] 31)).alloc (.cells #[I Z c.pos,I Z c.vel,I Z c.door] 65)).alloc (.cells #[I Z 0,I Z 0] 69))):=(((Below.refl _ _).alloc (Nat.le_refl _) _).alloc (by simp) _).alloc (by simp;omega) _
 go_enter Tryz.func119,Tryz.ntmps119
 go_upto_region 4 with (first | (go_at_call 56;refine (l3Low_any h HO.out _ _ (by omega) (by omega) (by omega) (by omega) _).mono ?_;rw [HLW.out];rintro e w1 ⟨rfl,hb⟩;have F0:=zH (F0.out.below hb F0.out.lt);have F1:=zH (F1.out.below hb F1.out.lt);have F2:=zH (F2.out.below hb F2.out.lt);have FB:=tB FB hb;clear hb;obtain ⟨x0_0,x0_1,x0_2,x0_3,x0_4,x0_5,x0_6,x0_7,x0_8,x0_9,x0_10,x0_11⟩:=F0.out;obtain ⟨x1_0,x1_1,x1_2,y1_0,y1_1,y1_2⟩:=F1.out;obtain ⟨x2_0,x2_1,y2_0,y2_1⟩:=F2.out) | (go_at_call 57;refine (l3High_any h HO.out _ _ (by omega) (by omega) (by omega) (by omega) _).mono ?_;rw [HHG.out];rintro e w2 ⟨rfl,hb⟩;have F0:=zH (F0.out.below hb F0.out.lt);have F1:=zH (F1.out.below hb F1.out.lt);have F2:=zH (F2.out.below hb F2.out.lt);have FB:=tB FB hb;clear hb;obtain ⟨x0_0,x0_1,x0_2,x0_3,x0_4,x0_5,x0_6,x0_7,x0_8,x0_9,x0_10,x0_11⟩:=F0.out;obtain ⟨x1_0,x1_1,x1_2,y1_0,y1_1,y1_2⟩:=F1.out;obtain ⟨x2_0,x2_1,y2_0,y2_1⟩:=F2.out))
 obtain ⟨ob,hbb⟩:∃ ob,ob=w2.heap.size:=⟨_,rfl⟩
 obtain ⟨w3,hw2⟩:∃ w3,w3=w2.alloc (.cells #[I Z (-1),I Z h.fl] 69):=⟨_,rfl⟩
 have lobF0:=F0.out.lt
 rw [← hbb] at lobF0
 have F0:Hid (HAt w3 w.heap.size h):=by rw [hw2];exact F0.out.alloc _
 have lobF1:=F1.out.lt
 rw [← hbb] at lobF1
 have F1:Hid (CW w3 (w.heap.size + 1) c):=by rw [hw2];exact F1.out.alloc _
 have lobF2:=F2.out.lt
 rw [← hbb] at lobF2
 have F2:Hid (MW w3 (w.heap.size + 2) (⟨0,0⟩:Sp)):=by rw [hw2];exact F2.out.alloc _
 have lobB:w.heap.size≤ob:=by rw [hbb];exact FB.out.size
 have FB:Hid (Below w.heap.size w w3):=by rw [hw2];exact FB.out.alloc FB.out.size _
 have F3:Hid (MW w3 ob (⟨-1,h.fl⟩:Sp)):=by rw [hw2];exact MW.at_ w2 ⟨-1,h.fl⟩ _ ob hbb
 rw [← hw2,← hbb]
 clear hbb hw2
 clear x0_0 x0_1 x0_2 x0_3 x0_4 x0_5 x0_6 x0_7 x0_8 x0_9 x0_10 x0_11 x1_0 x1_1 x1_2 y1_0 y1_1 y1_2 x2_0 x2_1 y2_0 y2_1 F1 en
 go_wp2_with fail
 go_loopw [8] (fun nn wr=>∃ z:Int,nn=I Z z∧-1≤z∧z≤h.fl + 1∧HAt wr w.heap.size h∧MW wr (w.heap.size + 2) (⟨0,0⟩:Sp)∧MW wr ob (⟨Hs.covLo h lw (z + 1).toNat,h.fl⟩:Sp)∧Below w.heap.size w wr) (fun nn _=>(h.fl + 1 - intOf nn).toNat)
 case atStart=>exact ⟨-1,rfl,by omega,by omega,F0.out,F2.out,F3.out,FB.out⟩
 case round=>
  obtain ⟨z,rfl,n1,n2,h0,h2,h3,h4⟩:=hrel
  have F0:=zH h0
  have F2:=zH h2
  have F3:=zH h3
  have FB:=zH h4
  clear h0 h2 h3 h4
  obtain ⟨x0_0,x0_1,x0_2,x0_3,x0_4,x0_5,x0_6,x0_7,x0_8,x0_9,x0_10,x0_11⟩:=F0.out
  obtain ⟨z0,z1,z2,z3⟩:=F3.out
  by_cases hlt:z≤h.fl
  ·obtain ⟨b1,b2⟩:=HO.out.level_bd z (by omega) (by omega)
   have ew:IntKind.i64.wrap (h.level z - h.lv)=h.level z - h.lv:=IntWalk.i64_in _ (by omega)
   go_wp2_with fail
   clear z0 z1 z2 z3
   by_cases hd:h.level z - h.lv≤lw
   ·have hd':decide (h.level z - h.lv≤lw)=true:=decide_eq_true hd
    have HD:=zH hd
    clear hd
    have F0:=zH (F0.out.below (Below.refl _ _).drew F0.out.lt)
    have F2:=zH (F2.out.below (Below.refl _ _).drew F2.out.lt)
    have F3:=zH (F3.out.below (Below.refl _ _).drew F3.out.lt)
    have FB:=zH (FB.out.drew)
    obtain ⟨x0_0,x0_1,x0_2,x0_3,x0_4,x0_5,x0_6,x0_7,x0_8,x0_9,x0_10,x0_11⟩:=F0.out
    refine wp_region_held_drew (S:=(fun w''=>hS w.heap.size h w'')) (by kernel_rfl) (by ((try dsimp only);(try simp only [hS]);first | ((repeat' apply And.intro) <;> assumption) | go_keep)) (fun hHeld=>?_)
    obtain ⟨v_1,hw1⟩:∃ v_1,v_1=wr.drew:=⟨_,rfl⟩
    rw [← hw1] at F0 F2 F3 FB hHeld ⊢
    clear hw1
    obtain ⟨x0_0,x0_1,x0_2,x0_3,x0_4,x0_5,x0_6,x0_7,x0_8,x0_9,x0_10,x0_11⟩:=F0.out
    refine tkz 0 rfl ?_
    refine tkz 1 rfl ?_
    refine tkz 3 rfl ?_
    refine tkz 4 rfl ?_
    refine tkz 6 rfl ?_
    refine rd1 2 (fun K hK=>?_)
    go_simp
    refine (specLevel_below h HO.out z (by omega) (by omega) _).mono ?_
    rintro e v_2 ⟨rfl,hb⟩
    have F0:=zH (F0.out.below hb F0.out.lt)
    have F2:=zH (F2.out.below hb F2.out.lt)
    have F3:=zH (F3.out.below hb F3.out.lt)
    have FB:=tB FB hb
    clear hb
    obtain ⟨x0_0,x0_1,x0_2,x0_3,x0_4,x0_5,x0_6,x0_7,x0_8,x0_9,x0_10,x0_11⟩:=F0.out
    try dsimp only
    refine kp hK (fun hHeld=>?_)
    clear hK K
    refine tkz 5 rfl ?_
    refine tkz 7 rfl ?_
    refine wpAnyH_done (by kernel_rfl) ?_ _
    obtain ⟨r0,r1,r2,r3⟩:=F3.out
    try dsimp only at r0 r1
    go_wp2_with fail
    go_roundw
    case rel=>exact ⟨z + 1,rfl,by omega,by omega,F0.out.below ((Below.refl _ _).setCell (Nat.le_refl _) _) (by omega),F2.out.other (by omega),by rw [covLo_yes n1 HD.out];exact F3.out.set0 z,FB.out.setCell (by omega) _⟩
    case measure=>simp [intOf];omega
   ·have hd':decide (h.level z - h.lv≤lw)=false:=decide_eq_false hd
    have HD:=zH hd
    clear hd
    have F0:=zH (F0.out.below (Below.refl _ _).drew F0.out.lt)
    have F2:=zH (F2.out.below (Below.refl _ _).drew F2.out.lt)
    have F3:=zH (F3.out.below (Below.refl _ _).drew F3.out.lt)
    have FB:=zH (FB.out.drew)
    obtain ⟨x0_0,x0_1,x0_2,x0_3,x0_4,x0_5,x0_6,x0_7,x0_8,x0_9,x0_10,x0_11⟩:=F0.out
    refine wp_region_held_drew (S:=(fun w''=>hS w.heap.size h w'')) (by kernel_rfl) (by ((try dsimp only);(try simp only [hS]);first | ((repeat' apply And.intro) <;> assumption) | go_keep)) (fun hHeld=>?_)
    obtain ⟨v_3,hw1⟩:∃ v_3,v_3=wr.drew:=⟨_,rfl⟩
    rw [← hw1] at F0 F2 F3 FB hHeld ⊢
    clear hw1
    obtain ⟨x0_0,x0_1,x0_2,x0_3,x0_4,x0_5,x0_6,x0_7,x0_8,x0_9,x0_10,x0_11⟩:=F0.out
    refine tkz 0 rfl ?_
    refine tkz 1 rfl ?_
    refine tkz 3 rfl ?_
    refine tkz 4 rfl ?_
    refine tkz 6 rfl ?_
    refine rd1 2 (fun K hK=>?_)
    go_simp
    refine (specLevel_below h HO.out z (by omega) (by omega) _).mono ?_
    rintro e v_4 ⟨rfl,hb⟩
    have F0:=zH (F0.out.below hb F0.out.lt)
    have F2:=zH (F2.out.below hb F2.out.lt)
    have F3:=zH (F3.out.below hb F3.out.lt)
    have FB:=tB FB hb
    clear hb
    obtain ⟨x0_0,x0_1,x0_2,x0_3,x0_4,x0_5,x0_6,x0_7,x0_8,x0_9,x0_10,x0_11⟩:=F0.out
    try dsimp only
    refine kp hK (fun hHeld=>?_)
    clear hK K
    refine tkz 5 rfl ?_
    refine tkz 7 rfl ?_
    refine wpAnyH_done (by kernel_rfl) ?_ _
    go_wp2_with fail
    go_roundw
    case rel=>exact ⟨z + 1,rfl,by omega,by omega,F0.out,F2.out,by rw [covLo_no n1 HD.out];exact F3.out,FB.out⟩
    case measure=>simp [intOf];omega
  ·have ez:z=h.fl + 1:=by omega
   subst ez
   obtain ⟨L,hL⟩:∃ L,Hs.covLo h lw (h.fl + 1 + 1).toNat=L:=⟨_,rfl⟩
   have HL:=zH hL
   have F3:Hid (MW wr ob (⟨L,h.fl⟩:Sp)):=hL ▸ F3.out
   clear hL z0 z1 z2 z3 hlt n1 n2
   go_wp2_with fail
   go_loopw [9] (fun nn wr=>∃ z:Int,nn=I Z z∧-2≤z∧z≤h.fl∧HAt wr w.heap.size h∧MW wr (w.heap.size + 2) (⟨0,0⟩:Sp)∧MW wr ob (⟨L,Hs.covHi h hg_ (h.fl - z).toNat⟩:Sp)∧Below w.heap.size w wr) (fun nn _=>(intOf nn + 2).toNat)
   case atStart=>exact ⟨h.fl,rfl,by omega,by omega,F0.out,F2.out,by rw [Int.sub_self];exact F3.out,FB.out⟩
   case round=>
    obtain ⟨z,rfl,n1,n2,h0,h2,h3,h4⟩:=hrel
    have F0:=zH h0
    have F2:=zH h2
    have F3:=zH h3
    have FB:=zH h4
    clear h0 h2 h3 h4
    obtain ⟨x0_0,x0_1,x0_2,x0_3,x0_4,x0_5,x0_6,x0_7,x0_8,x0_9,x0_10,x0_11⟩:=F0.out
    obtain ⟨z0,z1,z2,z3⟩:=F3.out
    by_cases hge:-1≤z
    ·obtain ⟨b1,b2⟩:=HO.out.level_bd z (by omega) (by omega)
     have ew:IntKind.i64.wrap (h.level z + h.lv)=h.level z + h.lv:=IntWalk.i64_in _ (by omega)
     go_wp2_with fail
     clear z0 z1 z2 z3
     by_cases hd:hg_≤h.level z + h.lv
     ·have hd':decide (hg_≤h.level z + h.lv)=true:=decide_eq_true hd
      have HD:=zH hd
      clear hd
      have F0:=zH (F0.out.below (Below.refl _ _).drew F0.out.lt)
      have F2:=zH (F2.out.below (Below.refl _ _).drew F2.out.lt)
      have F3:=zH (F3.out.below (Below.refl _ _).drew F3.out.lt)
      have FB:=zH (FB.out.drew)
      obtain ⟨x0_0,x0_1,x0_2,x0_3,x0_4,x0_5,x0_6,x0_7,x0_8,x0_9,x0_10,x0_11⟩:=F0.out
      refine wp_region_held_drew (S:=(fun w''=>hS w.heap.size h w'')) (by kernel_rfl) (by ((try dsimp only);(try simp only [hS]);first | ((repeat' apply And.intro) <;> assumption) | go_keep)) (fun hHeld=>?_)
      obtain ⟨v_5,hw1⟩:∃ v_5,v_5=wr.drew:=⟨_,rfl⟩
      rw [← hw1] at F0 F2 F3 FB hHeld ⊢
      clear hw1
      obtain ⟨x0_0,x0_1,x0_2,x0_3,x0_4,x0_5,x0_6,x0_7,x0_8,x0_9,x0_10,x0_11⟩:=F0.out
      refine tkz 0 rfl ?_
      refine tkz 1 rfl ?_
      refine tkz 3 rfl ?_
      refine tkz 4 rfl ?_
      refine tkz 6 rfl ?_
      refine rd1 2 (fun K hK=>?_)
      go_simp
      refine (specLevel_below h HO.out z (by omega) (by omega) _).mono ?_
      rintro e v_6 ⟨rfl,hb⟩
      have F0:=zH (F0.out.below hb F0.out.lt)
      have F2:=zH (F2.out.below hb F2.out.lt)
      have F3:=zH (F3.out.below hb F3.out.lt)
      have FB:=tB FB hb
      clear hb
      obtain ⟨x0_0,x0_1,x0_2,x0_3,x0_4,x0_5,x0_6,x0_7,x0_8,x0_9,x0_10,x0_11⟩:=F0.out
      try dsimp only
      refine kp hK (fun hHeld=>?_)
      clear hK K
      refine tkz 5 rfl ?_
      refine tkz 7 rfl ?_
      refine wpAnyH_done (by kernel_rfl) ?_ _
      obtain ⟨r0,r1,r2,r3⟩:=F3.out
      try dsimp only at r0 r1
      go_wp2_with fail
      go_roundw
      case rel=>exact ⟨z - 1,rfl,by omega,by omega,F0.out.below ((Below.refl _ _).setCell (Nat.le_refl _) _) (by omega),F2.out.other (by omega),by rw [covHi_yes n2 HD.out];exact F3.out.set1 z,FB.out.setCell (by omega) _⟩
      case measure=>simp [intOf];omega
     ·have hd':decide (hg_≤h.level z + h.lv)=false:=decide_eq_false hd
      have HD:=zH hd
      clear hd
      have F0:=zH (F0.out.below (Below.refl _ _).drew F0.out.lt)
      have F2:=zH (F2.out.below (Below.refl _ _).drew F2.out.lt)
      have F3:=zH (F3.out.below (Below.refl _ _).drew F3.out.lt)
      have FB:=zH (FB.out.drew)
      obtain ⟨x0_0,x0_1,x0_2,x0_3,x0_4,x0_5,x0_6,x0_7,x0_8,x0_9,x0_10,x0_11⟩:=F0.out
      refine wp_region_held_drew (S:=(fun w''=>hS w.heap.size h w'')) (by kernel_rfl) (by ((try dsimp only);(try simp only [hS]);first | ((repeat' apply And.intro) <;> assumption) | go_keep)) (fun hHeld=>?_)
      obtain ⟨v_7,hw1⟩:∃ v_7,v_7=wr.drew:=⟨_,rfl⟩
      rw [← hw1] at F0 F2 F3 FB hHeld ⊢
      clear hw1
      obtain ⟨x0_0,x0_1,x0_2,x0_3,x0_4,x0_5,x0_6,x0_7,x0_8,x0_9,x0_10,x0_11⟩:=F0.out
      refine tkz 0 rfl ?_
      refine tkz 1 rfl ?_
      refine tkz 3 rfl ?_
      refine tkz 4 rfl ?_
      refine tkz 6 rfl ?_
      refine rd1 2 (fun K hK=>?_)
      go_simp
      refine (specLevel_below h HO.out z (by omega) (by omega) _).mono ?_
      rintro e v_8 ⟨rfl,hb⟩
      have F0:=zH (F0.out.below hb F0.out.lt)
      have F2:=zH (F2.out.below hb F2.out.lt)
      have F3:=zH (F3.out.below hb F3.out.lt)
      have FB:=tB FB hb
      clear hb
      obtain ⟨x0_0,x0_1,x0_2,x0_3,x0_4,x0_5,x0_6,x0_7,x0_8,x0_9,x0_10,x0_11⟩:=F0.out
      try dsimp only
      refine kp hK (fun hHeld=>?_)
      clear hK K
      refine tkz 5 rfl ?_
      refine tkz 7 rfl ?_
      refine wpAnyH_done (by kernel_rfl) ?_ _
      go_wp2_with fail
      go_roundw
      case rel=>exact ⟨z - 1,rfl,by omega,by omega,F0.out,F2.out,by rw [covHi_no n2 HD.out];exact F3.out,FB.out⟩
      case measure=>simp [intOf];omega
    ·have ez:z=-2:=by omega
     subst ez
     have eq:(⟨L,Hs.covHi h hg_ (h.fl - -2).toNat⟩:Sp)=g:=by
      have e2:h.fl + 2=h.fl + 1 + 1:=by omega
      have e3:h.fl - -2=h.fl + 1 + 1:=by omega
      rw [← HGv.out,e2,HL.out,e3]
     clear z0 z1 z2 z3
     have F3:Hid (MW wr ob g):=eq ▸ F3.out
     obtain ⟨z0,z1,z2,z3⟩:=F3.out
     clear eq
     obtain ⟨q0,q1,q2,q3⟩:=F2.out
     try dsimp only at q0 q1
     clear HL HGv HO
     go_wp2_with fail
     change bodyPost _ _ _ _ _ (putM wr (w.heap.size + 2) g)
     obtain ⟨Wf,hWf⟩:∃ Wf,putM wr (w.heap.size + 2) g=Wf:=⟨_,rfl⟩
     have HRf:MW Wf (w.heap.size + 2) g:=hWf ▸ F2.out.put _
     have HBf:Below w.heap.size w Wf:=hWf ▸ below_putM FB.out (by omega) _
     rw [hWf]
     clear hWf
     obtain ⟨d0,d1,-,-⟩:=HRf
     try dsimp only at d0 d1
     exact bodyPost_ret (v:=.agg #[I Z g.lo,I Z g.hi]) (by simp [results,Tryz.results119,go_sem,d0,d1]) rfl ⟨rfl,HBf⟩
end Go.Proofs.YteimojoicfjdjaaGreat
namespace Go.Proofs.YteimojoicfjdjaaGreat
set_option maxRecDepth 20000
set_option maxHeartbeats 16000000
open Go.RowKit Pl
set_option linter.unusedSimpArgs false
set_option linter.unusedVariables false
theorem run_copy_rows{P:Program}(w:World)(dT sT ty elem:TypeId)(size g o dLen dCap:Nat)(a:Addr)(sLen sCap:Nat)(cur:Array Value)(t:TypeId)(cs:List Value)
  (hu:P.underlying dT=some (.slice elem)) (hs:(P.info? elem).map (·.size)=some size)
  (hg:w.heap[g]? = some (.cells cur t (0,0))) (hn:cs.length=Nat.min sLen dLen * size)
  (hsrc:∀ j v,cs[j]? = some v→w.cell? (a.add j)=some v) (hfit:o + cs.length≤cur.size) (h1:∀ v ∈ cs,v.oneCell'=true) :
  (Builtin.copy_ #[dT,sT] ty #[.slice (some ⟨g,o,none⟩) dLen dCap,.slice (some a) sLen sCap]).run P w =
   .ok (goInt (Nat.min sLen dLen)) (w.setRow g (cur.toList.take o ++ cs ++ cur.toList.drop (o + cs.length)).toArray):=by
 have hl:=run_loadCells_list (P:=P) w a cs hsrc
 have hst:=run_storeCells_at P g o t cs 0 cur w hg (by simpa using hfit) h1
 rw [hn] at hl
 cases hq:P.info? elem with
 | none=>simp [hq] at hs
 | some i=>
  have hi:i.size=size:=by simpa [hq] using hs
  simp [Builtin.copy_,run_underlying hu,Builtin.lenOf,Builtin.firstCells,sizeOf,typeInfo,hq,hi,hl,hst]
theorem run_copy_zero{P:Program}(w:World)(dT sT ty elem:TypeId)(size:Nat)(d a:Option Addr)(dLen dCap sLen sCap:Nat)(hu:P.underlying dT=some (.slice elem))(hs:(P.info? elem).map (·.size)=some size)(hn:Nat.min sLen dLen=0) :
  (Builtin.copy_ #[dT,sT] ty #[.slice d dLen dCap,.slice a sLen sCap]).run P w=.ok (goInt 0) w:=by
 cases hq:P.info? elem with
 | none=>simp [hq] at hs
 | some i=>
  have hl:∀ (x:Addr),(loadCells x 0).run P w=.ok #[] w:=fun x=>by simpa using run_loadCells_list (P:=P) w x [] (by simp)
  cases d <;> cases a <;> simp [Builtin.copy_,run_underlying hu,Builtin.lenOf,Builtin.firstCells,sizeOf,typeInfo,hq,hn,storeCells,hl]
theorem grown_row{w:World}{g:Nat}(cs:Array Value):w.grownBy (w.setRow g cs) (some g):=
 ⟨rfl,rfl,rfl,by simp [World.setRow],fun i _ hne=>setRow_other w g i cs (fun e=>hne (by rw [e]))⟩
theorem flat_take{l:List Pe}{k:Nat}(hk:k≤l.length):(flat l).take (k * 7)=flat (l.take k):=by
 have q:flat l=flat (l.take k) ++ flat (l.drop k):=by rw [← flat_append,List.take_append_drop]
 have z:(flat (l.take k)).length=k * 7:=by rw [flat_length,List.length_take];omega
 rw [q]
 exact List.take_left' z
theorem flat_drop{l:List Pe}{k:Nat}(hk:k≤l.length):(flat l).drop (k * 7)=flat (l.drop k):=by
 have q:flat l=flat (l.take k) ++ flat (l.drop k):=by rw [← flat_append,List.take_append_drop]
 have z:(flat (l.take k)).length=k * 7:=by rw [flat_length,List.length_take];omega
 rw [q]
 exact List.drop_left' z
theorem splice_take(c:List Value)(a N:Nat)(m:List Value)(h:a + m.length≤N)(hN:N≤c.length):(c.take a ++ m ++ c.drop (a + m.length)).take N=(c.take N).take a ++ (m ++ (c.take N).drop (a + m.length)):=by
 have e1:c.drop (a + m.length)=(c.take N).drop (a + m.length) ++ c.drop N:=by
  conv=>lhs;rw [← List.take_append_drop N c]
  rw [List.drop_append_of_le_length (by rw [List.length_take];omega)]
 have e2:c.take a=(c.take N).take a:=by rw [List.take_take,Nat.min_eq_left (by omega)]
 rw [e1,e2,← List.append_assoc]
 rw [List.take_left' (by simp only [List.length_append,List.length_take,List.length_drop];omega)]
 rw [List.append_assoc]
theorem Ow.spliced{w:World}{B g n cap:Nat}{l:List Pe}(h:Ow w B g n cap l)(k:Nat)(m:List Pe)(hf:k + m.length≤n) :
  ∃ cur:Array Value,w.heap[g]? = some (.cells cur 79 (0,0))∧k * 7 + (flat m).length≤cur.size∧Ow (w.setRow g (cur.toList.take (k * 7) ++ flat m ++ cur.toList.drop (k * 7 + (flat m).length)).toArray) B g n cap (l.take k ++ (m ++ l.drop (k + m.length))):=by
 obtain ⟨hln,hx,hr⟩:=h
 rcases hr with ⟨e,_⟩ | ⟨g',cap',cur,e,hB,hg,hnc,hcm,hsz,htk⟩
 ·cases e
 ·cases e
  have hfm:=flat_length m
  refine ⟨cur,hg,by rw [hfm,hsz];omega,?_,?_⟩
  ·simp only [List.length_append,List.length_take,List.length_drop]
   omega
  ·refine ⟨?_,Or.inr ⟨g,cap,_,rfl,hB,setRow_heap w g cur _ 79 _ hg,hnc,hcm,?_,?_⟩⟩
   ·rw [flat_length]
    simp only [List.length_append,List.length_take,List.length_drop]
    omega
   ·simp only [List.size_toArray,List.length_append,List.length_take,List.length_drop,Array.length_toList,hfm]
    omega
   ·have hcl:cur.toList.length=cap * 7:=by rw [Array.length_toList];exact hsz
    have hfl:flat (l.take k)=(flat l).take (k * 7):=(flat_take (by omega)).symm
    have hfd:flat (l.drop (k + m.length))=(flat l).drop (k * 7 + (flat m).length):=by
     rw [hfm,← Nat.add_mul]
     exact (flat_drop (by omega)).symm
    show (cur.toList.take (k * 7) ++ flat m ++ cur.toList.drop (k * 7 + (flat m).length)).take (n * 7)=_
    rw [flat_append,flat_append,hfl,hfd,← htk]
    exact splice_take _ _ _ _ (by omega) (by rw [hcl];omega)
theorem infoPE7:(Tryz.prog.info? 79).map (·.size)=some 7:=by kernel_rfl
theorem wpList_copy_ow{w:World}{ops:Array Oper}{rest:List Oper}{a:Act}{Q:Exit→Act→World→Prop}{d s:Operand}{dst:Option Tmp}{ty:TypeId}{ps:String}{af:Array Edge}
  (B g n cap:Nat) (l:List Pe) (hO:Ow w B g n cap l) (k:Nat) (m:List Pe) (dp sp:Option Addr) (dLen dCap sLen sCap:Nat) (hd:a.eval d=.slice dp dLen dCap) (hs:a.eval s=.slice sp sLen sCap) (hm:m.length=Nat.min sLen dLen)
  (hpos:0 < m.length→dp=some ⟨g,k * 7,none⟩∧∃ b f,sp=some ⟨b,f,none⟩∧∀ i p,m[i]? = some p→P7 w b (f + i * 7) p) (hfit:k + m.length≤n)
  (h:∀ w',Ow w' B g n cap (l.take k ++ (m ++ l.drop (k + m.length)))→w.grownBy w' (some g)→wpList Tryz.prog ops Q rest (a.put dst (goInt m.length)) w'):wpList Tryz.prog ops Q ({ dst:=dst,op:=.call { callee:=.builtin .copy,args:=#[d,s],argTypes:=#[33,33] },type:=ty,pos:=ps,after:=af,guard:=none } :: rest) a w:=by
 refine wpList_plain rfl fun K hK=>?_
 by_cases h0:m.length=0
 ·have hrun:=run_copy_zero (P:=Tryz.prog) w 33 33 ty 79 7 dp sp dLen dCap sLen sCap undPS infoPE7 (by omega)
  have e:m = []:=List.eq_nil_of_length_eq_zero h0
  subst e
  have q:=h w (by simpa using hO) (World.grownBy.refl w _)
  unfold Oper.wp
  simp [execOp,resolve,invoke,builtin,hd,hs,hrun,Result.andThen]
  exact hK _ _ q
 ·obtain ⟨rfl,b,f,rfl,h7⟩:=hpos (by omega)
  obtain ⟨cur,hg,hfi,hO'⟩:=hO.spliced k m hfit
  have hrun:=run_copy_rows (P:=Tryz.prog) w 33 33 ty 79 7 g (k * 7) dLen dCap ⟨b,f,none⟩ sLen sCap cur 79 (flat m) undPS infoPE7 hg (by rw [flat_length,hm]) (news_at h7) hfi (flat_one m)
  rw [← hm] at hrun
  have q:=h _ hO' (grown_row _)
  unfold Oper.wp
  simp [execOp,resolve,invoke,builtin,hd,hs,hrun,Result.andThen]
  exact hK _ _ (by simpa using q)
theorem pin_some{w:World}{B:Nat}{a:Option Addr}{l:List Pe}(h:PIn w B a l)(hpos:0 < l.length):∃ b f,a=some ⟨b,f,none⟩∧∀ i p,l[i]? = some p→P7 w b (f + i * 7) p:=by
 rcases h with h0 | ⟨b,o,e,hbl,h7⟩
 ·rw [h0] at hpos;simp at hpos
 ·exact ⟨b,o,e,h7⟩
theorem copied_any(l:List Pe)(a:Option Addr)(cap:Nat)(n:Nat)(hl:n≤1048576)(hn:l.length≤n)(w:World)(hP:PIn w w.heap.size a l) :
  Calls Tryz.prog 46 #[.slice a l.length cap,.int .i64 n] w fun e w'=>∃ g,e=.returned (.slice (some ⟨g,0,none⟩) n n)∧Ow w' w.heap.size g n n (l ++ List.replicate (n - l.length) zeroP)∧Below w.heap.size w w':=by
 have HP:=zH hP
 have hmk:=make_people n hl
 obtain ⟨g,hg⟩:∃ g,g=w.heap.size:=⟨_,rfl⟩
 obtain ⟨W0,hW0⟩:∃ W0,W0=w.alloc (.cells (madeCells (cells7 zeroP).toArray (n * 7)) 79):=⟨_,rfl⟩
 have FO:Hid (Ow W0 w.heap.size g n n (List.replicate n zeroP)):=by rw [hW0,hg];exact own_made n hl w _ (Nat.le_refl _)
 have FB:Hid (Below w.heap.size w W0):=by rw [hW0];exact (Below.refl _ _).alloc (Nat.le_refl _) _
 have HP0:Hid (PIn W0 w.heap.size a l):=hP.below FB.out (Nat.le_refl _)
 have HW:Hid (W0=w.alloc (.cells (madeCells (cells7 zeroP).toArray (n * 7)) 79)∧g=w.heap.size):=⟨hW0,hg⟩
 clear hP hW0 hg
 go_enter Tryz.func46,Tryz.ntmps46
 go_upto_region 2 with fail
 rw [← HW.out.1,← HW.out.2]
 go_wp2_with (refine wpList_copy_ow w.heap.size g n n _ FO.out 0 l (some ⟨g,0,none⟩) a n n l.length cap rfl rfl (by simp [Nat.min_eq_left hn]) (fun hpos=>⟨by simp,(pin_some HP0.out hpos)⟩) (by omega) ?_;intro w1 ho hg;have FO1:Hid (Ow w1 w.heap.size g n n (l ++ List.replicate (n - l.length) zeroP)):=(by have q:=ho;rw [List.take_zero,List.nil_append,Nat.zero_add,List.drop_replicate] at q;exact q);have FB1:Hid (Below w.heap.size w w1):=FB.out.grown hg FB.out.size (fun j hj=>by have e:g=j:=Option.some.inj hj;have:=FO.out.bl.1;omega);clear ho hg)
 go_ret
 exact ⟨g,rfl,FO1.out,FB1.out⟩
end Go.Proofs.YteimojoicfjdjaaGreat
namespace Go.Proofs.YteimojoicfjdjaaGreat
set_option maxRecDepth 200000
open Go.RowKit Pl Go.Maps
set_option linter.unusedSimpArgs false
set_option linter.unusedVariables false
def key2(a b:Int):Lit:=.string (keyBytes [.int .i64 a,.int .i64 b])
theorem undI:Tryz.prog.underlying 2=some (.int .i64):=by kernel_rfl
theorem undT:Tryz.prog.underlying 187=some (.map 69 2):=by kernel_rfl
theorem laidOut:laidOutB Tryz.prog=true:=by kernel_rfl
theorem rowM:(69:TypeId) < Tryz.prog.types.size:=of_decide_eq_true (by kernel_rfl)
theorem wideM:(match Tryz.prog.underlying 69 with | some (.array _ _) | some (.struct _)=>true | _=>false)=true:=by kernel_rfl
theorem lawM:Keyed Tryz.prog 69:=Keyed.of_law (deep_law_laid laidOut (m:=3) (by omega) rowM (by kernel_rfl) wideM)
theorem keyTy:Tryz.prog.keyType 69=true:=by kernel_rfl
theorem cellsM:Tryz.prog.cellsOf 69=2:=by kernel_rfl
theorem cellsI:Tryz.prog.cellsOf 2=1:=by kernel_rfl
theorem undM : ∃ f g : Field, Tryz.prog.underlying 69 = some (.struct #[f, g]) ∧ f.type = 2 ∧ g.type = 2 ∧ f.offset = 0 ∧ g.offset = 1 ∧ (f.name != "_") = true ∧ (g.name != "_") = true := by
 have e : ∀ o : Option TypeDesc, (match o with | some (.struct fs) => (match fs.toList with | [f, g] => f.type == 2 && (g.type == 2 && (f.offset == 0 && (g.offset == 1 && (f.name != "_" && g.name != "_")))) | _ => false) | _ => false) = true →
   ∃ f g : Field, o = some (.struct #[f, g]) ∧ f.type = 2 ∧ g.type = 2 ∧ f.offset = 0 ∧ g.offset = 1 ∧ (f.name != "_") = true ∧ (g.name != "_") = true := by
  intro o h
  split at h
  ·rename_i fs
   split at h
   ·rename_i f g hl
    simp only [Bool.and_eq_true,beq_iff_eq] at h
    refine ⟨f,g,?_,h.1,h.2.1,h.2.2.1,h.2.2.2.1,h.2.2.2.2.1,h.2.2.2.2.2⟩
    have:fs=#[f,g]:=by
     apply Array.ext'
     rw [hl]
    rw [this]
   ·cases h
  ·cases h
 exact e _ (by kernel_rfl)
theorem typesPos:∃ m,Tryz.prog.types.size=m + 1:=by
 have h:0 < Tryz.prog.types.size:=Nat.lt_of_le_of_lt (Nat.zero_le _) rowM
 exact ⟨_,(Nat.succ_pred_eq_of_pos h).symm⟩
theorem lits_two(k:Nat)(x y:Value):Tryz.prog.keyLits (k + 1) 69 [x,y]=(Tryz.prog.keyLits k 2 [x]).bind fun p=>(Tryz.prog.keyLits k 2 [y]).bind fun q=>some (p ++ q):=by
 obtain ⟨f,g,hu,t1,t2,o1,o2,n1,n2⟩:=undM
 simp only [Program.keyLits,hu]
 rw [if_pos ⟨by rw [cellsM];rfl,by simp [n1,n2]⟩]
 generalize hA:Tryz.prog.keyLits k 2 [x]=A
 generalize hB:Tryz.prog.keyLits k 2 [y]=B
 have e1:Tryz.prog.keyLits k f.type (List.take (Tryz.prog.cellsOf f.type) (List.drop f.offset [x,y]))=A:=by rw [t1,o1,cellsI];exact hA
 have e2:Tryz.prog.keyLits k g.type (List.take (Tryz.prog.cellsOf g.type) (List.drop g.offset [x,y]))=B:=by rw [t2,o2,cellsI];exact hB
 simp only [List.mapM_cons,List.mapM_nil,e1,e2]
 cases A <;> cases B <;> simp
theorem keyOf_span{a b:Int}(ha:(Lit.int .i64 a).wf=true)(hb:(Lit.int .i64 b).wf=true):keyOf Tryz.prog 69 (.agg #[.int .i64 a,.int .i64 b])=some (key2 a b):=by
 obtain ⟨f,g,hu,t1,t2,o1,o2,n1,n2⟩:=undM
 obtain ⟨m,hm⟩:=typesPos
 have hI:∀ x:Int,(Lit.int .i64 x).wf=true→Tryz.prog.keyLits (m + 1) 2 [.int .i64 x]=some [.int .i64 x]:=by
  intro x hx
  simp [Program.keyLits,undI,hx]
 have hk:Tryz.prog.keyLits (m + 1 + 1) 69 [.int .i64 a,.int .i64 b]=some [.int .i64 a,.int .i64 b]:=by
  rw [lits_two,hI a ha,hI b hb]
  rfl
 have hl:(Value.agg #[Value.int .i64 a,Value.int .i64 b]).cells.toList = [.int .i64 a,.int .i64 b]:=rfl
 have hf:(Value.agg #[Value.int .i64 a,Value.int .i64 b]).formed Tryz.prog 69=true:=by
  unfold Value.formed
  rw [hu,cellsM]
  rfl
 unfold keyOf
 rw [hu]
 dsimp only
 rw [if_pos (by rw [keyTy,hf];rfl),hm,hl,hk]
 rfl
theorem keyOf_span_inv{v:Value}{kl:Lit}(h:keyOf Tryz.prog 69 v=some kl):∃ a b,v=.agg #[.int .i64 a,.int .i64 b]∧kl=key2 a b∧(Lit.int .i64 a).wf=true∧(Lit.int .i64 b).wf=true:=by
 obtain ⟨f,g,hu,t1,t2,o1,o2,n1,n2⟩:=undM
 obtain ⟨m,hm⟩:=typesPos
 have hI:∀ (x:Value) (l:List Lit),Tryz.prog.keyLits (m + 1) 2 [x]=some l→∃ a,x=.int .i64 a∧l = [.int .i64 a]∧(Lit.int .i64 a).wf=true:=by
  intro x l hx
  have hk:=hx
  obtain ⟨a,e1,e2⟩:=keyLits_int' undI hx
  simp only [List.cons.injEq,and_true] at e1
  subst e1
  refine ⟨a,rfl,e2,?_⟩
  simp only [Program.keyLits,undI] at hk
  split at hk
  ·rename_i q;exact q.2
  ·cases hk
 unfold keyOf at h
 rw [hu] at h
 dsimp only at h
 split at h
 ·rename_i q
  rw [keyTy,Bool.true_and] at q
  cases v with
  | agg cs=>
   unfold Value.formed at q
   rw [hu,cellsM] at q
   have hs:cs.size=2:=by simpa using q
   obtain ⟨x,y,rfl⟩:∃ x y,cs=#[x,y]:=by
    refine ⟨cs[0],cs[1],?_⟩
    apply Array.ext
    ·simp [hs]
    ·intro i h1 h2
     have:i=0 ∨ i=1:=by simp at h2;omega
     rcases this with rfl | rfl <;> simp
   rw [hm] at h
   have hl:(Value.agg #[x,y]).cells.toList = [x,y]:=rfl
   rw [hl] at h
   have hk:=lits_two (m + 1) x y
   rw [hk] at h
   cases e1:Tryz.prog.keyLits (m + 1) 2 [x] with
   | none=>rw [e1] at h;cases h
   | some p=>
    cases e2:Tryz.prog.keyLits (m + 1) 2 [y] with
    | none=>rw [e1,e2] at h;cases h
    | some p2=>
     rw [e1,e2] at h
     obtain ⟨a,rfl,rfl,wa⟩:=hI x p e1
     obtain ⟨b,rfl,rfl,wb⟩:=hI y p2 e2
     refine ⟨a,b,rfl,?_,wa,wb⟩
     cases h
     rfl
  | _=>simp [Value.formed,hu] at q
 ·cases h
theorem wf64{f:Int}(h1:-1≤f)(h2:f≤1000):(Lit.int .i64 f).wf=true:=WalkArith.wf_i64 (by omega)
theorem key_is{f:Int}(h1:-1≤f)(h2:f≤1000):WideAt.IsKeyLit (key2 f f):=lawM.key (keyOf_span (wf64 h1 h2) (wf64 h1 h2))
theorem key_ne{f g:Int}(h1:-1≤f)(h2:f≤1000)(g1:-1≤g)(g2:g≤1000)(ne:f ≠ g):key2 f f ≠ key2 g g:=by
 intro e
 have a:=keyOf_span (wf64 h1 h2) (wf64 h1 h2)
 have b:=keyOf_span (wf64 g1 g2) (wf64 g1 g2)
 rw [e] at a
 have:=lawM.inj a b
 simp at this
 exact ne this
structure Told(D:DataW Unit)(S:Int→Option Int):Prop where
 isMap:IsMap D
 some_:∀ f c,S f=some c→Maps.has D (key2 f f)=true∧∀ z,D.atKey (key2 f f) z=.lit (.int .i64 c)
 only:∀ kl,Maps.has D kl=true→∃ f c,kl=key2 f f∧S f=some c
 bd:∀ f c,S f=some c→-1≤f∧f≤1000
theorem Told.empty:Told (.map []) (fun _=>none):=
 ⟨isMap_empty,fun f c h=>by (first | cases h | simp at h),fun kl h=>by (first | cases h | simp [Maps.has] at h),fun f c h=>by (first | cases h | simp at h)⟩
theorem Told.put{D:DataW Unit}{S:Int→Option Int}(t:Told D S){f:Int}(c:Int)(h1:-1≤f)(h2:f≤1000):Told (D.put (key2 f f) (.lit (.int .i64 c))) (fun g=>if g=f then some c else S g):=by
 refine ⟨t.isMap.put _ _,fun g d hg=>?_,fun kl hk=>?_,fun g d hg=>?_⟩
 ·try dsimp only at hg
  by_cases e:g=f
  ·rw [if_pos e] at hg
   cases hg
   subst e
   exact ⟨has_put_same t.isMap (key_is h1 h2) _,fun z=>atKey_put_same t.isMap (key_is h1 h2) _ z⟩
  ·rw [if_neg e] at hg
   obtain ⟨b1,b2⟩:=t.bd g d hg
   have ne:=key_ne b1 b2 h1 h2 e
   obtain ⟨p,q⟩:=t.some_ g d hg
   exact ⟨(has_put_other ne _).trans p,fun z=>(atKey_put_other ne _ z).trans (q z)⟩
 ·by_cases e:kl=key2 f f
  ·exact ⟨f,c,e,if_pos rfl⟩
  ·rw [has_put_other e] at hk
   obtain ⟨g,d,rfl,hg⟩:=t.only kl hk
   refine ⟨g,d,rfl,?_⟩
   try dsimp only
   rw [if_neg (fun q=>e (by rw [q]))]
   exact hg
 ·try dsimp only at hg
  by_cases e:g=f
  ·subst e;exact ⟨h1,h2⟩
  ·rw [if_neg e] at hg;exact t.bd g d hg
theorem Told.del{D:DataW Unit}{S:Int→Option Int}(t:Told D S){f:Int}(h1:-1≤f)(h2:f≤1000):Told (D.del (key2 f f)) (fun g=>if g=f then none else S g):=by
 refine ⟨t.isMap.del _,fun g d hg=>?_,fun kl hk=>?_,fun g d hg=>?_⟩
 ·try dsimp only at hg
  by_cases e:g=f
  ·rw [if_pos e] at hg;cases hg
  ·rw [if_neg e] at hg
   obtain ⟨b1,b2⟩:=t.bd g d hg
   have ne:=key_ne b1 b2 h1 h2 e
   obtain ⟨p,q⟩:=t.some_ g d hg
   exact ⟨(has_del_other ne).trans p,fun z=>(atKey_del_other ne z).trans (q z)⟩
 ·by_cases e:kl=key2 f f
  ·subst e;rw [has_del_same] at hk;cases hk
  ·rw [has_del_other e] at hk
   obtain ⟨g,d,rfl,hg⟩:=t.only kl hk
   refine ⟨g,d,rfl,?_⟩
   try dsimp only
   rw [if_neg (fun q=>e (by rw [q]))]
   exact hg
 ·try dsimp only at hg
  by_cases e:g=f
  ·rw [if_pos e] at hg;cases hg
  ·rw [if_neg e] at hg;exact t.bd g d hg
noncomputable abbrev RI:Value→Option (DataW Unit × List MemPlace):=plainElem Tryz.prog 2
def Held(w:World)(b n:Nat)(S:Int→Option Int):Prop:=∃ D,w.ownsMap Tryz.prog 69 RI b n D∧Told D S
theorem own_below{w w':World}{b n B:Nat}{D:DataW Unit}(h:w.ownsMap Tryz.prog 69 RI b n D)(hb:Below B w w')(hB:b < B):w'.ownsMap Tryz.prog 69 RI b n D:=by
 obtain ⟨es,clock,hm,F,hs,hD⟩:=h
 exact ⟨es,clock,(hb.block b hB).trans hm,F,hs,hD⟩
theorem Held.lt{w:World}{b n:Nat}{S:Int→Option Int}(h:Held w b n S):b < w.heap.size:=by
 obtain ⟨D,ho,_⟩:=h
 exact ho.lt
theorem Held.below{w w':World}{b n B:Nat}{S:Int→Option Int}(h:Held w b n S)(hb:Below B w w')(hB:b < B):Held w' b n S:=by
 obtain ⟨D,ho,t⟩:=h
 exact ⟨D,own_below ho hb hB,t⟩
theorem Held.alloc{w:World}{b n:Nat}{S:Int→Option Int}(h:Held w b n S)(o:Obj):Held (w.alloc o) b n S:=by
 obtain ⟨D,ho,t⟩:=h
 exact ⟨D,ho.alloc o,t⟩
theorem Held.drew{w:World}{b n:Nat}{S:Int→Option Int}(h:Held w b n S):Held w.drew b n S:=by
 obtain ⟨D,ho,t⟩:=h
 exact ⟨D,ho.drew,t⟩
theorem rng_below{w w':World}{b r n B cnt:Nat}{D:DataW Unit}{left:Lit→Bool}(h:w.ranges Tryz.prog 69 RI b r n D left cnt)(hb:Below B w w')(hB:b < B)(hR:r < B):w'.ranges Tryz.prog 69 RI b r n D left cnt:=by
 obtain ⟨es,clock,since,seen,c0,h1,h2,h3,h4,h5,h6⟩:=h
 exact ⟨es,clock,since,seen,c0,(hb.block b hB).trans h1,h2,h3,h4,(hb.block r hR).trans h5,h6⟩
theorem rng_drew{w:World}{b r n cnt:Nat}{D:DataW Unit}{left:Lit→Bool}(h:w.ranges Tryz.prog 69 RI b r n D left cnt):w.drew.ranges Tryz.prog 69 RI b r n D left cnt:=h
theorem grown_drew{a c:World}{row:Option Nat}(h:a.grownBy c row):a.grownBy c.drew row:=⟨h.os,h.tape,h.output,h.size,h.block⟩
theorem rng_lt{w:World}{b r n cnt:Nat}{D:DataW Unit}{left:Lit→Bool}(h:w.ranges Tryz.prog 69 RI b r n D left cnt):b < w.heap.size:=h.owns.lt
theorem grown_cell{w w':World}{row:Option Nat}(hg:w.grownBy w' row){k o:Nat}(hk:k < w.heap.size)(hne:some k ≠ row):w'.cell? ⟨k,o,none⟩=w.cell? ⟨k,o,none⟩:=World.cell?_of_block (w:=w) (hg.block k hk hne)
theorem grown_frozen{w w':World}{row:Option Nat}(hg:w.grownBy w' row){k o:Nat}(hk:k < w.heap.size)(hne:some k ≠ row):w'.frozen? ⟨k,o,none⟩=w.frozen? ⟨k,o,none⟩:=World.frozen?_of_block (w:=w) (hg.block k hk hne)
theorem MW.grown{W w:World}{b:Nat}{x:Sp}{row:Option Nat}(a:MW W b x)(hg:W.grownBy w row)(hne:some b ≠ row):MW w b x:=
 a.of (fun o=>grown_cell hg a.lt hne) (fun o=>grown_frozen hg a.lt hne)
theorem NW.grown{W w:World}{b:Nat}{x:Ss}{row:Option Nat}(a:NW W b x)(hg:W.grownBy w row)(hne:some b ≠ row):NW w b x:=
 a.of (fun o=>grown_cell hg a.lt hne) (fun o=>grown_frozen hg a.lt hne)
theorem told_step{D:DataW Unit}{S:Int→Option Int}(t:Told D S){a b c:Int}{kl:Lit}{y:DataW Unit × List MemPlace}(hk:keyOf Tryz.prog 69 (.agg #[.int .i64 a,.int .i64 b])=some kl)(hv:RI (.int .i64 c)=some y)(hat:∀ zd,D.atKey kl zd=y.1) :
  b=a∧kl=key2 a a∧S a=some c∧-1≤a∧a≤1000:=by
 obtain ⟨f,d,rfl,hf⟩:=t.only kl (has_true_of_atKey hat)
 obtain ⟨b1,b2⟩:=t.bd f d hf
 have e:=lawM.inj hk (keyOf_span (wf64 b1 b2) (wf64 b1 b2))
 simp at e
 obtain ⟨ea,eb⟩:=e
 obtain ⟨c',ec,rfl,_⟩:=plainElem_int_inv undI hv
 cases ec
 have q:=(t.some_ f d hf).2 (.lit (.int .i64 0))
 rw [hat] at q
 cases q
 exact ⟨by rw [ea,eb],by rw [ea],by rw [ea];exact hf,by omega,by omega⟩
end Go.Proofs.YteimojoicfjdjaaGreat
namespace Go.Proofs.YteimojoicfjdjaaGreat
open Go.ChangeShapes Go.WideShapes Go.ChangeAt Go.RowKit Go.Joins
def plainFields(fs:Array Field)(k:TypeId)(n:Nat):Bool:=
 (List.range n).all fun i=>match fs[i]? with
  | some f=>f.type == k && f.offset == i
  | none=>false
theorem plainFields_at{fs:Array Field}{k:TypeId}{n i:Nat}(h:plainFields fs k n=true)(hi:i < n):∃ f,fs[i]? = some f∧f.type=k∧f.offset=i:=by
 unfold plainFields at h
 have:=List.all_eq_true.1 h i (List.mem_range.2 hi)
 cases hf:fs[i]? with
 | none=>rw [hf] at this;cases this
 | some f=>rw [hf] at this;simp at this;exact ⟨f,rfl,this.1,this.2⟩
theorem trod_i64s{H:Type}{enc:TypeId × Value→H}{P:Program}{w:World}{base:Nat}{spare:Nat→Bool}{held:Bool}{fuel:Nat}{t k:TypeId}{fs:Array Field}{n:Nat}{cs:List Value}{x:DataW H × List MemPlace}
  (hs:P.underlying t=some (.struct fs)) (hk:P.underlying k=some (.int .i64)) (hck:P.cellsOf k=1) (hf:plainFields fs k n=true) (hC:P.cellsOf t=n)
  (hfu:DataW.trod enc P w base spare held fuel t cs=some x) :
  ∃ xs:List Int,xs.length=n∧cs=xs.map (Value.int .i64)∧∀ x ∈ xs,(Lit.int .i64 x).wf=true:=by
 obtain ⟨xs,m,_,_,hl,hxl,hall⟩:=DataW.trod_struct hs hfu
 have hlen:cs.length=n:=hl.trans hC
 have key:∀ i,i < n→∃ x:Int,cs[i]? = some (.int .i64 x)∧(Lit.int .i64 x).wf=true:=by
  intro i hi
  obtain ⟨f,hfi,hft,hfo⟩:=plainFields_at hf hi
  have ht:=hall i f hfi
  rw [hft,hfo,hck] at ht
  have hi':i < xs.length:=by
   rw [hxl]
   have:=Array.getElem?_eq_some_iff.1 hfi
   exact this.1
  rw [List.getElem?_eq_getElem hi'] at ht
  obtain ⟨a,e0,_,wa⟩:=DataW.trod_int hk ht
  refine ⟨a,?_,wa⟩
  have hcs:i < cs.length:=by omega
  have e1:(cs.drop i).take 1 = [cs[i]]:=by rw [List.drop_eq_getElem_cons hcs];rfl
  rw [e1] at e0
  rw [List.getElem?_eq_getElem hcs]
  simpa using e0
 refine ⟨cs.map intOf,by simpa using hlen,?_,?_⟩
 ·apply List.ext_getElem?
  intro i
  by_cases hi:i < n
  ·obtain ⟨x,hx,_⟩:=key i hi
   simp only [List.getElem?_map,hx,Option.map_some,intOf]
  ·rw [List.getElem?_eq_none (by omega),List.getElem?_eq_none (by simp;omega)]
 ·intro x hx
  obtain ⟨c,hc,rfl⟩:=List.mem_map.1 hx
  obtain ⟨i,hi⟩:=List.getElem?_of_mem hc
  have hlt:i < n:=by
   by_cases h:i < n
   ·exact h
   ·rw [List.getElem?_eq_none (by omega)] at hi;cases hi
  obtain ⟨y,hy,wy⟩:=key i hlt
  rw [hy] at hi
  obtain rfl:Value.int .i64 y=c:=by simpa using hi
  exact wy
theorem list12{l:List Int}(h:l.length=12):∃ a b c d e f g i j k m n:Int,l = [a,b,c,d,e,f,g,i,j,k,m,n]:=by
 match l,h with
 | [a,b,c,d,e,f,g,i,j,k,m,n],_=>exact ⟨a,b,c,d,e,f,g,i,j,k,m,n,rfl⟩
theorem list3{l:List Int}(h:l.length=3):∃ a b c:Int,l = [a,b,c]:=by
 match l,h with
 | [a,b,c],_=>exact ⟨a,b,c,rfl⟩
theorem list2{l:List Int}(h:l.length=2):∃ a b:Int,l = [a,b]:=by
 match l,h with
 | [a,b],_=>exact ⟨a,b,rfl⟩
end Go.Proofs.YteimojoicfjdjaaGreat
namespace Go.Proofs.YteimojoicfjdjaaGreat
open Go.ChangeShapes Go.WideShapes Go.ChangeAt Go.RowKit Go.Joins Pl
set_option linter.unusedSimpArgs false
set_option linter.unusedVariables false
theorem list7{l:List Int}(h:l.length=7):∃ a b c d e f g:Int,l = [a,b,c,d,e,f,g]:=by
 match l,h with
 | [a,b,c,d,e,f,g],_=>exact ⟨a,b,c,d,e,f,g,rfl⟩
theorem add_at(b o n:Nat):(⟨b,o,none⟩:Addr).add n=⟨b,o + n,none⟩:=by
 unfold Addr.add
 by_cases h:n=0 <;> simp [h]
set_option linter.unusedSimpArgs false
set_option linter.unusedVariables false
theorem drop_split(cs:List Value)(k n:Nat):cs.drop k=(cs.drop k).take n ++ cs.drop (k + n):=by
 have:cs.drop (k + n)=(cs.drop k).drop n:=by rw [List.drop_drop]
 rw [this,List.take_append_drop]
theorem trod_two{H:Type}{enc:TypeId × Value→H}{P:Program}{w:World}{base:Nat}{spare:Nat→Bool}{held:Bool}{fuel:Nat}{t tc k:TypeId}{fs gs:Array Field}{f0 f1:Field}{n:Nat}{cs:List Value}{x:DataW H × List MemPlace}
  (hs:P.underlying t=some (.struct fs)) (hg:P.underlying tc=some (.struct gs)) (hk:P.underlying k=some (.int .i64)) (hck:P.cellsOf k=1) (hf:plainFields gs k n=true) (hC:P.cellsOf tc=n) (hCC:P.cellsOf t=n + n)
  (h0:fs[0]? = some f0) (t0:f0.type=tc) (o0:f0.offset=0) (h1:fs[1]? = some f1) (t1:f1.type=tc) (o1:f1.offset=n)
  (hfu:DataW.trod enc P w base spare held fuel t cs=some x) :
  ∃ xs ys:List Int,xs.length=n∧ys.length=n∧cs=(xs ++ ys).map (Value.int .i64):=by
 obtain ⟨zs,m,_,_,hl,hxl,hall⟩:=DataW.trod_struct hs hfu
 have hl':cs.length=n + n:=hl.trans hCC
 have a0:=hall 0 f0 h0
 have a1:=hall 1 f1 h1
 have z0:0 < zs.length:=by rw [hxl];exact (Array.getElem?_eq_some_iff.1 h0).1
 have z1:1 < zs.length:=by rw [hxl];exact (Array.getElem?_eq_some_iff.1 h1).1
 rw [List.getElem?_eq_getElem z0,t0,o0,hC] at a0
 rw [List.getElem?_eq_getElem z1,t1,o1,hC] at a1
 obtain ⟨xs,x1,x2,_⟩:=trod_i64s hg hk hck hf hC a0
 obtain ⟨ys,y1,y2,_⟩:=trod_i64s hg hk hck hf hC a1
 refine ⟨xs,ys,x1,y1,?_⟩
 simp only [List.drop_zero] at x2 y2
 rw [List.map_append,← x2,← y2]
 have:(cs.drop n).take n=cs.drop n:=List.take_of_length_le (by simp;omega)
 rw [this,List.take_append_drop]
structure DeckT(P:Program)(te:TypeId)(tsh tcar tsp tspan k kb:TypeId)(fs fsh gcar fsp gspan:Array Field)(f0 f1 f2 f3 f4 s0 s1 p0 p1:Field):Prop where
 hs:P.underlying te=some (.struct fs)
 hsh:P.underlying tsh=some (.struct fsh)
 hcar:P.underlying tcar=some (.struct gcar)
 hsp:P.underlying tsp=some (.struct fsp)
 hspan:P.underlying tspan=some (.struct gspan)
 hk:P.underlying k=some (.int .i64)
 hb:P.underlying kb=some .bool
 ck:P.cellsOf k=1
 cb:P.cellsOf kb=1
 pcar:plainFields gcar k 3=true
 pspan:plainFields gspan k 2=true
 ccar:P.cellsOf tcar=3
 cspan:P.cellsOf tspan=2
 csh:P.cellsOf tsh=3 + 3
 csp:P.cellsOf tsp=2 + 2
 cte:P.cellsOf te=13
 hf0:fs[0]? = some f0∧f0.type=tsh∧f0.offset=0
 hf1:fs[1]? = some f1∧f1.type=tsp∧f1.offset=6
 hf2:fs[2]? = some f2∧f2.type=k∧f2.offset=10
 hf3:fs[3]? = some f3∧f3.type=k∧f3.offset=11
 hf4:fs[4]? = some f4∧f4.type=kb∧f4.offset=12
 hs0:fsh[0]? = some s0∧s0.type=tcar∧s0.offset=0
 hs1:fsh[1]? = some s1∧s1.type=tcar∧s1.offset=3
 hp0:fsp[0]? = some p0∧p0.type=tspan∧p0.offset=0
 hp1:fsp[1]? = some p1∧p1.type=tspan∧p1.offset=2
theorem trod_deck{H:Type}{enc:TypeId × Value→H}{P:Program}{w:World}{base:Nat}{spare:Nat→Bool}{held:Bool}{fuel:Nat}{te tsh tcar tsp tspan k kb:TypeId}{fs fsh gcar fsp gspan:Array Field}{f0 f1 f2 f3 f4 s0 s1 p0 p1:Field}{cs:List Value}{x:DataW H × List MemPlace}
  (D:DeckT P te tsh tcar tsp tspan k kb fs fsh gcar fsp gspan f0 f1 f2 f3 f4 s0 s1 p0 p1)
  (hfu:DataW.trod enc P w base spare held fuel te cs=some x):∃ d:Dk,cs=cellsD d:=by
 obtain ⟨zs,m,_,_,hl,hxl,hall⟩:=DataW.trod_struct D.hs hfu
 have hl':cs.length=13:=hl.trans D.cte
 have sz:∀ (i:Nat) (f:Field),fs[i]? = some f→∃ y,DataW.trod enc P w base spare held m f.type ((cs.drop f.offset).take (P.cellsOf f.type))=some y:=by
  intro i f hf
  have a:=hall i f hf
  have z:i < zs.length:=by rw [hxl];exact (Array.getElem?_eq_some_iff.1 hf).1
  rw [List.getElem?_eq_getElem z] at a
  exact ⟨_,a⟩
 obtain ⟨y0,a0⟩:=sz 0 f0 D.hf0.1
 obtain ⟨y1,a1⟩:=sz 1 f1 D.hf1.1
 obtain ⟨y2,a2⟩:=sz 2 f2 D.hf2.1
 obtain ⟨y3,a3⟩:=sz 3 f3 D.hf3.1
 obtain ⟨y4,a4⟩:=sz 4 f4 D.hf4.1
 rw [D.hf0.2.1,D.hf0.2.2,D.csh] at a0
 rw [D.hf1.2.1,D.hf1.2.2,D.csp] at a1
 rw [D.hf2.2.1,D.hf2.2.2,D.ck] at a2
 rw [D.hf3.2.1,D.hf3.2.2,D.ck] at a3
 rw [D.hf4.2.1,D.hf4.2.2,D.cb] at a4
 obtain ⟨xs,ys,x1,y1',e0⟩:=trod_two D.hsh D.hcar D.hk D.ck D.pcar D.ccar D.csh D.hs0.1 D.hs0.2.1 D.hs0.2.2 D.hs1.1 D.hs1.2.1 D.hs1.2.2 a0
 obtain ⟨us,vs,u1,v1,e1⟩:=trod_two D.hsp D.hspan D.hk D.ck D.pspan D.cspan D.csp D.hp0.1 D.hp0.2.1 D.hp0.2.2 D.hp1.1 D.hp1.2.1 D.hp1.2.2 a1
 obtain ⟨pl,e2,_,_⟩:=DataW.trod_int D.hk a2
 obtain ⟨pu,e3,_,_⟩:=DataW.trod_int D.hk a3
 obtain ⟨hd,e4,_⟩:=DataW.trod_bool D.hb a4
 obtain ⟨q0,q1,q2,rfl⟩:=list3 x1
 obtain ⟨q3,q4,q5,rfl⟩:=list3 y1'
 obtain ⟨q6,q7,rfl⟩:=list2 u1
 obtain ⟨q8,q9,rfl⟩:=list2 v1
 refine ⟨⟨⟨⟨q0,q1,q2⟩,⟨q3,q4,q5⟩⟩,⟨⟨q6,q7⟩,⟨q8,q9⟩⟩,pl,pu,hd⟩,?_⟩
 have s0:=drop_split cs 0 6
 have s1:=drop_split cs 6 4
 have s2:=drop_split cs 10 1
 have s3:=drop_split cs 11 1
 have s4:=drop_split cs 12 1
 have s5:cs.drop 13 = []:=List.drop_eq_nil_of_le (by omega)
 rw [List.drop_zero] at s0 e0
 rw [s0,e0,s1,e1,s2,e2,s3,e3,s4,e4,s5]
 rfl
theorem open_grp{H:Type}{enc:TypeId × Value→H}{P:Program}{w:World}{base:Nat}{spare:Nat→Bool}{held:Bool}{r:Reach}{b0:Nat}{t th tds te tl tps tp k kb tsh tcar tsp tspan:TypeId}{gs hs ls ps fs fsh gcar fsp gspan:Array Field}{g0 g1 g2 g3 g4 l0 l1 f0 f1 f2 f3 f4 s0 s1 p0 p1:Field}{v:Value}{d:DataW H}{p:List MemPlace}
  (D:DeckT P te tsh tcar tsp tspan k kb fs fsh gcar fsp gspan f0 f1 f2 f3 f4 s0 s1 p0 p1)
  (ht:P.underlying t=some (.struct gs)) (hh:P.underlying th=some (.struct hs)) (hds:P.underlying tds=some (.slice te)) (hl:P.underlying tl=some (.struct ls)) (hps:P.underlying tps=some (.slice tp)) (hp:P.underlying tp=some (.struct ps))
  (ph:plainFields hs k 12=true) (pp:plainFields ps k 7=true) (ch:P.cellsOf th=12) (cds:P.cellsOf tds=1) (cl:P.cellsOf tl=2) (cps:P.cellsOf tps=1) (cp:P.cellsOf tp=7) (ct:P.cellsOf t=17)
  (hg0:gs[0]? = some g0∧g0.type=th∧g0.offset=0) (hg1:gs[1]? = some g1∧g1.type=tds∧g1.offset=12) (hg2:gs[2]? = some g2∧g2.type=tl∧g2.offset=13) (hg3:gs[3]? = some g3∧g3.type=k∧g3.offset=15) (hg4:gs[4]? = some g4∧g4.type=kb∧g4.offset=16)
  (hl0:ls[0]? = some l0∧l0.type=k∧l0.offset=0) (hl1:ls[1]? = some l1∧l1.type=tps∧l1.offset=1)
  (hv:Value.okWide P w r b0 t v) (h:DataW.Trod enc P w base spare held t v d p) :
  ∃ (x:Gr) (da:Option Addr) (dc:Nat) (pa:Option Addr) (pc:Nat),v=.agg #[.int .i64 x.h.fl,.int .i64 x.h.gp,.int .i64 x.h.ln,.int .i64 x.h.rf,.int .i64 x.h.sp,.int .i64 x.h.pu,.int .i64 x.h.br,.int .i64 x.h.dr,.int .i64 x.h.lv,.int .i64 x.h.dO,.int .i64 x.h.ld,.int .i64 x.h.qu,.slice da x.ds.length dc,.int .i64 x.led.nx,.slice pa x.led.ps.length pc,.int .i64 x.tk,.bool x.rc]∧x.ds.length≤maxLen∧x.led.ps.length≤maxLen∧DIn w w.heap.size da x.ds∧PIn w w.heap.size pa x.led.ps:=by
 obtain ⟨cs,rfl,_⟩:=okWide_struct ht hv
 obtain ⟨fuel,hfu⟩:=h
 obtain ⟨zs,m,_,_,hlen,hxl,hall⟩:=DataW.trod_struct ht hfu
 have hl':cs.toList.length=17:=by simpa [Value.cells] using hlen.trans ct
 have sz:∀ (i:Nat) (f:Field),gs[i]? = some f→∃ y,DataW.trod enc P w base spare held m f.type ((cs.toList.drop f.offset).take (P.cellsOf f.type))=some y:=by
  intro i f hf
  have a:=hall i f hf
  have z:i < zs.length:=by rw [hxl];exact (Array.getElem?_eq_some_iff.1 hf).1
  rw [List.getElem?_eq_getElem z] at a
  exact ⟨_,a⟩
 obtain ⟨y0,a0⟩:=sz 0 g0 hg0.1
 obtain ⟨y1,a1⟩:=sz 1 g1 hg1.1
 obtain ⟨y2,a2⟩:=sz 2 g2 hg2.1
 obtain ⟨y3,a3⟩:=sz 3 g3 hg3.1
 obtain ⟨y4,a4⟩:=sz 4 g4 hg4.1
 rw [hg0.2.1,hg0.2.2,ch] at a0
 rw [hg1.2.1,hg1.2.2,cds] at a1
 rw [hg2.2.1,hg2.2.2,cl] at a2
 rw [hg3.2.1,hg3.2.2,D.ck] at a3
 rw [hg4.2.1,hg4.2.2,D.cb] at a4
 obtain ⟨xs,x1,e0,_⟩:=trod_i64s hh D.hk D.ck ph ch a0
 obtain ⟨tk,e3,_,_⟩:=DataW.trod_int D.hk a3
 obtain ⟨rc,e4,_⟩:=DataW.trod_bool D.hb a4
 obtain ⟨q0,q1,q2,q3,q4,q5,q6,q7,q8,q9,q10,q11,rfl⟩:=list12 x1
 have hD:∃ (ds:List Dk) (da:Option Addr) (dc:Nat),(cs.toList.drop 12).take 1 = [.slice da ds.length dc]∧ds.length≤maxLen∧DIn w w.heap.size da ds:=by
  rcases Go.Deep.open_slice hds a1 with ⟨e1,_⟩ | ⟨a,len,cap,mm,n,D',Pq,e1,hb,hle,hm,hmm,-,hx⟩
  ·exact ⟨[],none,0,e1,Nat.zero_le _,Or.inl rfl⟩
  ·have lm:len≤mm:=by rw [hmm];split <;> omega
   have:Inhabited Dk:=⟨zeroD⟩
   obtain ⟨f,hf'⟩:=Go.Deep.choose_lt (α:=Dk) (n:=len) (p:=fun i p=>∀ c,c < 13→w.cell? ((a.add (i * 13)).add c)=(cellsD p)[c]?) (fun i hi=>by
    obtain ⟨cs',g1,g2⟩:=hx i (by omega)
    obtain ⟨dd,rfl⟩:=trod_deck D g2
    rw [D.cte] at g1
    obtain ⟨_,_,g3⟩:=World.cells?_some g1
    exact ⟨dd,fun c hc=>by rw [g3 c hc]⟩)
   refine ⟨(List.range len).map f,some a,cap,by rw [e1];simp,by simp;omega,?_⟩
   by_cases hz:len=0
   ·left;simp [hz]
   ·right
    obtain ⟨b,o,sp⟩:=a
    have hsp:sp=none:=by simpa [Addr.add] using World.cell?_spot (hf' 0 (by omega) 0 (by omega))
    subst hsp
    have blk:b < w.heap.size:=by
     have:=hf' 0 (by omega) 0 (by omega)
     simp only [add_at] at this
     exact World.block_lt_of_cell? w _ this
    refine ⟨b,o,rfl,blk,fun i p hp=>?_⟩
    have hi:i < len:=by
     have:=(List.getElem?_eq_some_iff.1 hp).1
     simpa using this
    have e:p=f i:=by simpa [hi] using hp.symm
    subst e
    have c:=hf' i hi
    simp only [add_at] at c
    exact ⟨c 0 (by omega),c 1 (by omega),c 2 (by omega),c 3 (by omega),c 4 (by omega),c 5 (by omega),c 6 (by omega),c 7 (by omega),c 8 (by omega),c 9 (by omega),c 10 (by omega),c 11 (by omega),c 12 (by omega)⟩
 have hP:∃ (nx:Int) (ps:List Pe) (pa:Option Addr) (pc:Nat),(cs.toList.drop 13).take 2 = [.int .i64 nx,.slice pa ps.length pc]∧ps.length≤maxLen∧PIn w w.heap.size pa ps:=by
  obtain ⟨zs',m',_,_,hlen',hxl',hall'⟩:=DataW.trod_struct hl a2
  have hl2:((cs.toList.drop 13).take 2).length=2:=hlen'.trans cl
  have b0:=hall' 0 l0 hl0.1
  have b1:=hall' 1 l1 hl1.1
  have z0:0 < zs'.length:=by rw [hxl'];exact (Array.getElem?_eq_some_iff.1 hl0.1).1
  have z1:1 < zs'.length:=by rw [hxl'];exact (Array.getElem?_eq_some_iff.1 hl1.1).1
  rw [List.getElem?_eq_getElem z0,hl0.2.1,hl0.2.2,D.ck] at b0
  rw [List.getElem?_eq_getElem z1,hl1.2.1,hl1.2.2,cps] at b1
  obtain ⟨nx,e5,_,_⟩:=DataW.trod_int D.hk b0
  generalize (cs.toList.drop 13).take 2=c2 at hl2 e5 b1
  have key:∀ u:Value,List.take 1 (List.drop 1 c2) = [u]→c2 = [.int .i64 nx,u]:=by
   intro u hu
   match c2,hl2 with
   | [y,z],_=>
    simp at e5 hu
    rw [e5,hu]
  rcases Go.Deep.open_slice hps b1 with ⟨e1,_⟩ | ⟨a,len,cap,mm,n,D',Pq,e1,hb,hle,hm,hmm,-,hx⟩
  ·exact ⟨nx,[],none,0,key _ e1,Nat.zero_le _,Or.inl rfl⟩
  ·have lm:len≤mm:=by rw [hmm];split <;> omega
   have:Inhabited Pe:=⟨⟨0,0,0,0,0,0,0⟩⟩
   obtain ⟨f,hf'⟩:=Go.Deep.choose_lt (α:=Pe) (n:=len) (p:=fun i p=>∀ c,c < 7→w.cell? ((a.add (i * 7)).add c)=(cells7 p)[c]?) (fun i hi=>by
    obtain ⟨cs',g1,g2⟩:=hx i (by omega)
    obtain ⟨xs,x1,x2,x3⟩:=trod_i64s hp D.hk D.ck pp cp g2
    obtain ⟨c0,c1,c2,c3,c4,c5,c6,rfl⟩:=list7 x1
    rw [cp] at g1
    obtain ⟨_,_,g3⟩:=World.cells?_some g1
    refine ⟨⟨c0,c1,c2,c3,c4,c5,c6⟩,fun c hc=>?_⟩
    rw [g3 c hc,x2]
    rfl)
   refine ⟨nx,(List.range len).map f,some a,cap,by rw [key _ e1];simp,by simp;omega,?_⟩
   by_cases hz:len=0
   ·left;simp [hz]
   ·right
    obtain ⟨b,o,sp⟩:=a
    have hsp:sp=none:=by simpa [Addr.add] using World.cell?_spot (hf' 0 (by omega) 0 (by omega))
    subst hsp
    have blk:b < w.heap.size:=by
     have:=hf' 0 (by omega) 0 (by omega)
     simp only [add_at] at this
     exact World.block_lt_of_cell? w _ this
    refine ⟨b,o,rfl,blk,fun i p hp=>?_⟩
    have hi:i < len:=by
     have:=(List.getElem?_eq_some_iff.1 hp).1
     simpa using this
    have e:p=f i:=by simpa [hi] using hp.symm
    subst e
    have c:=hf' i hi
    simp only [add_at] at c
    exact ⟨c 0 (by omega),c 1 (by omega),c 2 (by omega),c 3 (by omega),c 4 (by omega),c 5 (by omega),c 6 (by omega)⟩
 obtain ⟨ds,da,dc,e1,n1,d1⟩:=hD
 obtain ⟨nx,ps',pa,pc,e2,n2,d2⟩:=hP
 refine ⟨⟨⟨q0,q1,q2,q3,q4,q5,q6,q7,q8,q9,q10,q11⟩,ds,⟨nx,ps'⟩,tk,rc⟩,da,dc,pa,pc,?_,n1,n2,d1,d2⟩
 have s0:=drop_split cs.toList 0 12
 have s1:=drop_split cs.toList 12 1
 have s2:=drop_split cs.toList 13 2
 have s3:=drop_split cs.toList 15 1
 have s4:=drop_split cs.toList 16 1
 have s5:cs.toList.drop 17 = []:=List.drop_eq_nil_of_le (by omega)
 rw [List.drop_zero] at s0 e0
 rw [e0,s1,e1,s2,e2,s3,e3,s4,e4,s5] at s0
 have e:cs=(cs.toList).toArray:=by simp
 rw [e,s0]
 rfl
end Go.Proofs.YteimojoicfjdjaaGreat
