/- Parts of the proof: LedC. -/
import Derived.Test.YteimojoicfjdjaaGreatZ18
import Derived.Test.YteimojoicfjdjaaGreatZ37
import Derived.Deep.RegionHeld3
import Derived.BigGuardPart
import Derived.OwnWalk
import Derived.Laws.OwnMore
namespace Go.Proofs.YteimojoicfjdjaaGreat
set_option maxRecDepth 20000
set_option maxHeartbeats 16000000
open Value renaming int → I
open IntKind renaming i64 → Z
open Go.RowKit Pl
set_option linter.unusedSimpArgs false
set_option linter.unusedVariables false
theorem make_five(w:World):(Instr.makeSlice 173 (I Z 5) (I Z 5)).run Tryz.prog w=.ok (.slice (some ⟨w.heap.size,0,none⟩) 5 5) (w.alloc (.cells #[I Z 0,I Z 0,I Z 0,I Z 0,I Z 0] 2)):=by
 obtain ⟨i,hi,hz,hs,hb⟩:=info_parts info64
 have r:=run_make (P:=Tryz.prog) w 173 2 i (I Z 0) undI64S hi hz .i64 .i64 5 5 (by omega) (Int.le_refl _) (by rw [hb];omega) (by omega)
 rw [hs] at r
 have e:madeCells (Value.int IntKind.i64 0).cells (Int.toNat 5 * 1)=#[I Z 0,I Z 0,I Z 0,I Z 0,I Z 0]:=by kernel_rfl
 rw [e] at r
 exact r
theorem five_own(w:World)(B:Nat)(hB:B≤w.heap.size):OwI (w.alloc (.cells #[I Z 0,I Z 0,I Z 0,I Z 0,I Z 0] 2)) B (.slice (some ⟨w.heap.size,0,none⟩) 5 5) [0,0,0,0,0]:=
 World.ownsRow_lit (base:=B) (e:=2) (size:=1) w #[I Z 0,I Z 0,I Z 0,I Z 0,I Z 0] 5 hB (by unfold maxLen;omega) rfl
def cnts(l:List Pe):List Int:=[(cnt 0 (-1) 0 l:Int),(cnt 1 (-1) 0 l:Int),(cnt 2 (-1) 0 l:Int),(cnt 3 (-1) 0 l:Int),(cnt 4 (-1) 0 l:Int)]
theorem cnt_take{st sh ca:Int}{l:List Pe}{i:Nat}{p:Pe}(h:l[i]? = some p):cnt st sh ca (l.take (i + 1))=cnt st sh ca (l.take i) + (if isIn st sh ca p=true then 1 else 0):=countP_take h
theorem cnt_le(st sh ca:Int)(l:List Pe)(i:Nat):cnt st sh ca (l.take i)≤i:=Nat.le_trans List.countP_le_length (by rw [List.length_take];omega)
theorem countStates_any(l:List Pe)(a:Option Addr)(cap:Nat)(hl:l.length≤1048576)(hs:∀ (i:Nat) (p:Pe),l[i]? = some p→0≤p.st∧p.st≤4)(w:World)(hP:PIn w w.heap.size a l) :
  Calls Tryz.prog 135 #[.slice a l.length cap] w fun e w'=>∃ g,e=.returned (.slice (some ⟨g,0,none⟩) 5 5)∧OwI w' w.heap.size (.slice (some ⟨g,0,none⟩) 5 5) (cnts l)∧Below w.heap.size w w':=by
 have HP:=zH hP
 have hmk:=make_five
 clear hP
 go_enter Tryz.func135,Tryz.ntmps135
 go_wp2_with fail
 obtain ⟨g,hg⟩:∃ g,g=w.heap.size:=⟨_,rfl⟩
 have hgw:w.heap.size≤g:=by omega
 have FO:Hid (OwI (w.alloc (.cells #[I Z 0,I Z 0,I Z 0,I Z 0,I Z 0] 2)) w.heap.size (.slice (some ⟨g,0,none⟩) 5 5) [0,0,0,0,0]):=by rw [hg];exact five_own w _ (Nat.le_refl _)
 rw [← hg]
 go_loopw [9] (fun ii wr=>∃ i:Nat,ii=I Z i∧i≤l.length∧OwI wr w.heap.size (.slice (some ⟨g,0,none⟩) 5 5) (cnts (l.take i))∧Below w.heap.size w wr) (fun ii _=>l.length - (intOf ii).toNat)
 case atStart=>exact ⟨0,rfl,by omega,by simpa [cnts,cnt] using FO.out,(Below.refl _ _).alloc (Nat.le_refl _) _⟩
 case round=>
  obtain ⟨i,rfl,hi,ho,hb⟩:=hrel
  have FO:=zH ho
  have FB:=zH hb
  have lg:g < wr.heap.size:=(FO.out.lt g rfl).2
  have ng:=Nat.ne_of_gt lg
  have lsz:=FB.out.size
  clear ho hb hg
  by_cases hlt:i < l.length
  ·obtain ⟨p,hp⟩:∃ p,l[i]? = some p:=⟨_,List.getElem?_eq_getElem hlt⟩
   rcases HP.out with h0 | ⟨b,o,rfl,hbl,h7⟩
   ·rw [h0] at hlt;simp at hlt
   have hst:=hs i p hp
   obtain ⟨c0,c1,c2,c3,c4,c5,c6⟩:=(h7 i p hp).below FB.out hbl
   obtain ⟨id,fr,tw,sh,ca,st,pl⟩:=p
   dsimp only at hst c0 c1 c2 c3 c4 c5 c6
   have s:st=0 ∨ st=1 ∨ st=2 ∨ st=3 ∨ st=4:=by omega
   clear hst h7 hs
   rcases s with rfl | rfl | rfl | rfl | rfl
   ·have ew:IntKind.i64.wrap ((cnt 0 (-1) 0 (l.take i):Int) + 1)=(cnt 0 (-1) 0 (l.take i):Int) + 1:=IntWalk.i64_in _ (by have:=cnt_le 0 (-1) 0 l i;omega)
    have HS:Hid (OwI ((wr.setCell ⟨g,0,none⟩ (I Z ((cnt 0 (-1) 0 (l.take i):Int) + 1))).alloc (.cells #[I Z id,I Z fr,I Z tw,I Z sh,I Z ca,I Z 0,I Z pl] 79)) w.heap.size (.slice (some ⟨g,0,none⟩) 5 5) (cnts (l.take (i + 1)))):=by
     have q:=(FO.out.set 0 ((cnt 0 (-1) 0 (l.take i):Int) + 1)).alloc (.cells #[I Z id,I Z fr,I Z tw,I Z sh,I Z ca,I Z 0,I Z pl] 79)
     have e:(cnts (l.take i)).set 0 ((cnt 0 (-1) 0 (l.take i):Int) + 1)=cnts (l.take (i + 1)):=by
      unfold cnts
      rw [cnt_take hp,cnt_take hp,cnt_take hp,cnt_take hp,cnt_take hp]
      simp [isIn]
     rw [e] at q
     exact q
    have y0:=FO.out.cell (i:=0) rfl
    have fy:=FO.out.fz 0
    have z0:=(FO.out.alloc (.cells #[I Z id,I Z fr,I Z tw,I Z sh,I Z ca,I Z 0,I Z pl] 79)).cell (i:=0) rfl
    have fz:=(FO.out.alloc (.cells #[I Z id,I Z fr,I Z tw,I Z sh,I Z ca,I Z 0,I Z pl] 79)).fz 0
    clear hp
    go_wp2_with fail
    go_roundw
    case rel=>exact ⟨i + 1,by simp,by omega,HS.out,(FB.out.setCell (by omega) _).alloc (by simp;omega) _⟩
    case measure=>simp [intOf];omega
   ·have ew:IntKind.i64.wrap ((cnt 1 (-1) 0 (l.take i):Int) + 1)=(cnt 1 (-1) 0 (l.take i):Int) + 1:=IntWalk.i64_in _ (by have:=cnt_le 1 (-1) 0 l i;omega)
    have HS:Hid (OwI ((wr.setCell ⟨g,1,none⟩ (I Z ((cnt 1 (-1) 0 (l.take i):Int) + 1))).alloc (.cells #[I Z id,I Z fr,I Z tw,I Z sh,I Z ca,I Z 1,I Z pl] 79)) w.heap.size (.slice (some ⟨g,0,none⟩) 5 5) (cnts (l.take (i + 1)))):=by
     have q:=(FO.out.set 1 ((cnt 1 (-1) 0 (l.take i):Int) + 1)).alloc (.cells #[I Z id,I Z fr,I Z tw,I Z sh,I Z ca,I Z 1,I Z pl] 79)
     have e:(cnts (l.take i)).set 1 ((cnt 1 (-1) 0 (l.take i):Int) + 1)=cnts (l.take (i + 1)):=by
      unfold cnts
      rw [cnt_take hp,cnt_take hp,cnt_take hp,cnt_take hp,cnt_take hp]
      simp [isIn]
     rw [e] at q
     exact q
    have y1:=FO.out.cell (i:=1) rfl
    have fy:=FO.out.fz 1
    have z1:=(FO.out.alloc (.cells #[I Z id,I Z fr,I Z tw,I Z sh,I Z ca,I Z 1,I Z pl] 79)).cell (i:=1) rfl
    have fz:=(FO.out.alloc (.cells #[I Z id,I Z fr,I Z tw,I Z sh,I Z ca,I Z 1,I Z pl] 79)).fz 1
    clear hp
    go_wp2_with fail
    go_roundw
    case rel=>exact ⟨i + 1,by simp,by omega,HS.out,(FB.out.setCell (by omega) _).alloc (by simp;omega) _⟩
    case measure=>simp [intOf];omega
   ·have ew:IntKind.i64.wrap ((cnt 2 (-1) 0 (l.take i):Int) + 1)=(cnt 2 (-1) 0 (l.take i):Int) + 1:=IntWalk.i64_in _ (by have:=cnt_le 2 (-1) 0 l i;omega)
    have HS:Hid (OwI ((wr.setCell ⟨g,2,none⟩ (I Z ((cnt 2 (-1) 0 (l.take i):Int) + 1))).alloc (.cells #[I Z id,I Z fr,I Z tw,I Z sh,I Z ca,I Z 2,I Z pl] 79)) w.heap.size (.slice (some ⟨g,0,none⟩) 5 5) (cnts (l.take (i + 1)))):=by
     have q:=(FO.out.set 2 ((cnt 2 (-1) 0 (l.take i):Int) + 1)).alloc (.cells #[I Z id,I Z fr,I Z tw,I Z sh,I Z ca,I Z 2,I Z pl] 79)
     have e:(cnts (l.take i)).set 2 ((cnt 2 (-1) 0 (l.take i):Int) + 1)=cnts (l.take (i + 1)):=by
      unfold cnts
      rw [cnt_take hp,cnt_take hp,cnt_take hp,cnt_take hp,cnt_take hp]
      simp [isIn]
     rw [e] at q
     exact q
    have y2:=FO.out.cell (i:=2) rfl
    have fy:=FO.out.fz 2
    have z2:=(FO.out.alloc (.cells #[I Z id,I Z fr,I Z tw,I Z sh,I Z ca,I Z 2,I Z pl] 79)).cell (i:=2) rfl
    have fz:=(FO.out.alloc (.cells #[I Z id,I Z fr,I Z tw,I Z sh,I Z ca,I Z 2,I Z pl] 79)).fz 2
    clear hp
    go_wp2_with fail
    go_roundw
    case rel=>exact ⟨i + 1,by simp,by omega,HS.out,(FB.out.setCell (by omega) _).alloc (by simp;omega) _⟩
    case measure=>simp [intOf];omega
   ·have ew:IntKind.i64.wrap ((cnt 3 (-1) 0 (l.take i):Int) + 1)=(cnt 3 (-1) 0 (l.take i):Int) + 1:=IntWalk.i64_in _ (by have:=cnt_le 3 (-1) 0 l i;omega)
    have HS:Hid (OwI ((wr.setCell ⟨g,3,none⟩ (I Z ((cnt 3 (-1) 0 (l.take i):Int) + 1))).alloc (.cells #[I Z id,I Z fr,I Z tw,I Z sh,I Z ca,I Z 3,I Z pl] 79)) w.heap.size (.slice (some ⟨g,0,none⟩) 5 5) (cnts (l.take (i + 1)))):=by
     have q:=(FO.out.set 3 ((cnt 3 (-1) 0 (l.take i):Int) + 1)).alloc (.cells #[I Z id,I Z fr,I Z tw,I Z sh,I Z ca,I Z 3,I Z pl] 79)
     have e:(cnts (l.take i)).set 3 ((cnt 3 (-1) 0 (l.take i):Int) + 1)=cnts (l.take (i + 1)):=by
      unfold cnts
      rw [cnt_take hp,cnt_take hp,cnt_take hp,cnt_take hp,cnt_take hp]
      simp [isIn]
     rw [e] at q
     exact q
    have y3:=FO.out.cell (i:=3) rfl
    have fy:=FO.out.fz 3
    have z3:=(FO.out.alloc (.cells #[I Z id,I Z fr,I Z tw,I Z sh,I Z ca,I Z 3,I Z pl] 79)).cell (i:=3) rfl
    have fz:=(FO.out.alloc (.cells #[I Z id,I Z fr,I Z tw,I Z sh,I Z ca,I Z 3,I Z pl] 79)).fz 3
    clear hp
    go_wp2_with fail
    go_roundw
    case rel=>exact ⟨i + 1,by simp,by omega,HS.out,(FB.out.setCell (by omega) _).alloc (by simp;omega) _⟩
    case measure=>simp [intOf];omega
   ·have ew:IntKind.i64.wrap ((cnt 4 (-1) 0 (l.take i):Int) + 1)=(cnt 4 (-1) 0 (l.take i):Int) + 1:=IntWalk.i64_in _ (by have:=cnt_le 4 (-1) 0 l i;omega)
    have HS:Hid (OwI ((wr.setCell ⟨g,4,none⟩ (I Z ((cnt 4 (-1) 0 (l.take i):Int) + 1))).alloc (.cells #[I Z id,I Z fr,I Z tw,I Z sh,I Z ca,I Z 4,I Z pl] 79)) w.heap.size (.slice (some ⟨g,0,none⟩) 5 5) (cnts (l.take (i + 1)))):=by
     have q:=(FO.out.set 4 ((cnt 4 (-1) 0 (l.take i):Int) + 1)).alloc (.cells #[I Z id,I Z fr,I Z tw,I Z sh,I Z ca,I Z 4,I Z pl] 79)
     have e:(cnts (l.take i)).set 4 ((cnt 4 (-1) 0 (l.take i):Int) + 1)=cnts (l.take (i + 1)):=by
      unfold cnts
      rw [cnt_take hp,cnt_take hp,cnt_take hp,cnt_take hp,cnt_take hp]
      simp [isIn]
     rw [e] at q
     exact q
    have y4:=FO.out.cell (i:=4) rfl
    have fy:=FO.out.fz 4
    have z4:=(FO.out.alloc (.cells #[I Z id,I Z fr,I Z tw,I Z sh,I Z ca,I Z 4,I Z pl] 79)).cell (i:=4) rfl
    have fz:=(FO.out.alloc (.cells #[I Z id,I Z fr,I Z tw,I Z sh,I Z ca,I Z 4,I Z pl] 79)).fz 4
    clear hp
    go_wp2_with fail
    go_roundw
    case rel=>exact ⟨i + 1,by simp,by omega,HS.out,(FB.out.setCell (by omega) _).alloc (by simp;omega) _⟩
    case measure=>simp [intOf];omega
  ·have ei:i=l.length:=by omega
   subst ei
   have FO:Hid (OwI wr w.heap.size (.slice (some ⟨g,0,none⟩) 5 5) (cnts l)):=by
    have q:=FO.out
    rw [List.take_length] at q
    exact q
   go_wp2_with fail
   go_ret
   exact ⟨g,rfl,FO.out,FB.out⟩
def riders(sh ca:Int)(l:List Pe):List Int:=(l.filter (isW 1 sh ca)).map (fun p=>p.id)
theorem riders_take{sh ca:Int}{l:List Pe}{i:Nat}{p:Pe}(h:l[i]? = some p):riders sh ca (l.take (i + 1))=riders sh ca (l.take i) ++ (if isW 1 sh ca p=true then [p.id] else []):=by
 have hi:i < l.length:=(List.getElem?_eq_some_iff.1 h).1
 have e:l[i]=p:=(List.getElem?_eq_some_iff.1 h).2
 unfold riders
 rw [List.take_succ_eq_append_getElem hi,List.filter_append,List.map_append,e]
 congr 1
 cases k:isW 1 sh ca p <;> simp [List.filter,k]
theorem riders_le(sh ca:Int)(l:List Pe):(riders sh ca l).length≤l.length:=by
 unfold riders
 rw [List.length_map]
 exact List.length_filter_le _ _
theorem riders_cnt{sh ca:Int}(h:0≤sh)(l:List Pe):(riders sh ca l).length=cnt 1 sh ca l:=by
 unfold riders cnt
 rw [List.length_map,List.countP_eq_length_filter]
 congr 2
 funext p
 exact (isW_in h p).symm
theorem ridersIn_any(l:List Pe)(a:Option Addr)(cap:Nat)(sh ca:Int)(hl:l.length≤1048576)(w:World)(hP:PIn w w.heap.size a l) :
  Calls Tryz.prog 175 #[.slice a l.length cap,I Z sh,I Z ca] w fun e w'=>∃ v,e=.returned v∧OwI w' w.heap.size v (riders sh ca l)∧Below w.heap.size w w':=by
 have HP:=zH hP
 obtain ⟨i0,hi0,hz0,hz1,hz2⟩:=info_parts info64
 have hI:Hid (Tryz.prog.info? 2=some i0∧i0.zero=some (I Z 0)∧i0.size=1∧i0.bytes=8):=⟨hi0,hz0,hz1,hz2⟩
 clear hP hi0 hz0 hz1 hz2
 go_enter Tryz.func175,Tryz.ntmps175
 go_wp2_with fail
 go_loopw [7,12] (fun vv ii wr=>∃ (i:Nat) (v:Value),ii=I Z i∧v=vv∧i≤l.length∧OwI wr w.heap.size v (riders sh ca (l.take i))∧Below w.heap.size w wr) (fun _ ii _=>l.length - (intOf ii).toNat)
 case atStart=>exact ⟨0,_,rfl,rfl,by omega,owi_nil _ _,Below.refl _ _⟩
 case round=>
  obtain ⟨i,v,rfl,hv,hi,ho,hb⟩:=hrel
  subst hv
  have FO:=zH ho
  have FB:=zH hb
  have lsz:=FB.out.size
  clear ho hb
  by_cases hlt:i < l.length
  ·obtain ⟨p,hp⟩:∃ p,l[i]? = some p:=⟨_,List.getElem?_eq_getElem hlt⟩
   rcases HP.out with h0 | ⟨b,o,rfl,hbl,h7⟩
   ·rw [h0] at hlt;simp at hlt
   obtain ⟨c0,c1,c2,c3,c4,c5,c6⟩:=(h7 i p hp).below FB.out hbl
   have hn:(riders sh ca (l.take i)).length≤1048576:=Nat.le_trans (riders_le _ _ _) (by rw [List.length_take];omega)
   clear h7
   cases kw:isW 1 sh ca p
   ·have HE:Hid (riders sh ca (l.take (i + 1))=riders sh ca (l.take i)):=by
     rw [riders_take hp,kw]
     simp
     exact trivial
    clear hp
    go_wp2_with (go_at_call 196;refine (isWith_any p 1 sh ca _).mono ?_;rw [kw];rintro e w2 ⟨rfl,hb⟩;have FO:Hid (OwI w2 w.heap.size v (riders sh ca (l.take i))):=(FO.out.alloc _).below hb (fun k hk=>Nat.lt_of_lt_of_le (FO.out.lt k hk).2 (by simp));have FB:Hid (Below w.heap.size w w2):=(FB.out.alloc FB.out.size _).trans (hb.mono (by simp;omega));have F3:Hid (P7 w2 wr.heap.size 0 p):=(P7.at_ wr p _ _ rfl).below hb (by simp);have lz:=FB.out.size;clear hb;obtain ⟨z0,z1,z2,z3,z4,z5,z6⟩:=F3.out)
    go_roundw
    case rel=>exact ⟨i + 1,_,by simp,rfl,by omega,by rw [HE.out];exact FO.out,FB.out⟩
    case measure=>simp [intOf];omega
   ·have HE:Hid (riders sh ca (l.take (i + 1))=riders sh ca (l.take i) ++ [p.id]):=by
     rw [riders_take hp,kw]
     rfl
    clear hp
    go_wp2_with (first | (go_at_call 196;refine (isWith_any p 1 sh ca _).mono ?_;rw [kw];rintro e w2 ⟨rfl,hb⟩;have FO:Hid (OwI w2 w.heap.size v (riders sh ca (l.take i))):=(FO.out.alloc _).below hb (fun k hk=>Nat.lt_of_lt_of_le (FO.out.lt k hk).2 (by simp));have FB:Hid (Below w.heap.size w w2):=(FB.out.alloc FB.out.size _).trans (hb.mono (by simp;omega));have F3:Hid (P7 w2 wr.heap.size 0 p):=(P7.at_ wr p _ _ rfl).below hb (by simp);have lz:=FB.out.size;clear hb;obtain ⟨z0,z1,z2,z3,z4,z5,z6⟩:=F3.out) | (at_builtin;go_loud (refine wpList_append_own _ rfl _ _ 173 rfl w.heap.size 2 i0 (I Z 0) 1 8 undI64S hI.out.1 hI.out.2.1 hI.out.2.2.1 hI.out.2.2.2 rfl (by omega) _ (riders sh ca (l.take i)).length _ rfl (FO.out.alloc _) ⟨w2.heap.size,0,none⟩ 1 1 [I Z p.id] rfl rfl (one_new w2 p.id _) (one_cell p.id) (by unfold maxLen;omega) (by omega) (by simp;omega) ?_);intro v1 w3 ho hg hn;have FO3:Hid (OwI w3 w.heap.size v1 (riders sh ca (l.take (i + 1)))):=(by have q:=HE.out;unfold OwI;rw [q,List.length_append];have e:intsV (riders sh ca (l.take i) ++ [p.id])=intsV (riders sh ca (l.take i)) ++ [I Z p.id]:=(by simp [intsV]);rw [e];exact ho);have FB3:Hid (Below w.heap.size w w3):=(FB.out.alloc FB.out.size _).grown hg (by simp;omega) (fun j hj=>(FO.out.lt j hj).1);clear ho hg hn))
    go_roundw
    case rel=>exact ⟨i + 1,_,by simp,rfl,by omega,FO3.out,FB3.out⟩
    case measure=>simp [intOf];omega
  ·have ei:i=l.length:=by omega
   subst ei
   have FO:Hid (OwI wr w.heap.size v (riders sh ca l)):=by
    have q:=FO.out
    rw [List.take_length] at q
    exact q
   go_wp2_with fail
   go_ret
   exact ⟨v,rfl,FO.out,FB.out⟩
theorem freePlaces_any(h:Hs)(d1:0≤h.ld)(d2:h.ld≤20)(l:List Pe)(a:Option Addr)(cap:Nat)(sh ca:Int)(hl:l.length≤1048576)(w:World)(hP:PIn w w.heap.size a l) :
  Calls Tryz.prog 195 #[.agg #[I Z h.fl,I Z h.gp,I Z h.ln,I Z h.rf,I Z h.sp,I Z h.pu,I Z h.br,I Z h.dr,I Z h.lv,I Z h.dO,I Z h.ld,I Z h.qu],.slice a l.length cap,I Z sh,I Z ca] w fun e w'=>e=.returned (I Z (h.ld - (riders sh ca l).length))∧Below w.heap.size w w':=by
 have HP:=zH hP
 have F0:Hid (HAt (w.alloc (.cells #[I Z h.fl,I Z h.gp,I Z h.ln,I Z h.rf,I Z h.sp,I Z h.pu,I Z h.br,I Z h.dr,I Z h.lv,I Z h.dO,I Z h.ld,I Z h.qu] 31)) w.heap.size h):=HAt.new w h _
 have FB:Hid (Below w.heap.size w (w.alloc (.cells #[I Z h.fl,I Z h.gp,I Z h.ln,I Z h.rf,I Z h.sp,I Z h.pu,I Z h.br,I Z h.dr,I Z h.lv,I Z h.dO,I Z h.ld,I Z h.qu] 31))):=(Below.refl _ _).alloc (Nat.le_refl _) _
 obtain ⟨W0,hW0⟩:∃ W0,W0=(w.alloc (.cells #[I Z h.fl,I Z h.gp,I Z h.ln,I Z h.rf,I Z h.sp,I Z h.pu,I Z h.br,I Z h.dr,I Z h.lv,I Z h.dO,I Z h.ld,I Z h.qu] 31)):=⟨_,rfl⟩
 rw [← hW0] at F0 FB
 have HW0:=zH hW0
 have lr:=riders_le sh ca l
 have ew:IntKind.i64.wrap (h.ld - ((riders sh ca l).length:Int))=h.ld - ((riders sh ca l).length:Int):=IntWalk.i64_in _ (by omega)
 clear hW0 hP
 go_enter Tryz.func195,Tryz.ntmps195
 go_upto_region 1 with fail
 rw [← HW0.out]
 clear HW0
 have F0:=zH (F0.out.below (Below.refl _ _).drew F0.out.lt)
 have FB:=zH (FB.out.drew)
 have m0:=F0.out.c10
 refine wp_region_held_drew (S:=(fun w''=>w''.cell? ⟨w.heap.size,10,none⟩=some (I Z h.ld))) (by kernel_rfl) (by (try dsimp only);first | exact m0 | go_keep) (fun hHeld=>?_)
 obtain ⟨v_1,hw1⟩:∃ v_1,v_1=W0.drew:=⟨_,rfl⟩
 rw [← hw1] at F0 FB hHeld ⊢
 clear hw1
 have m0:=F0.out.c10
 refine tkz 0 rfl ?_
 refine tkz 1 rfl ?_
 refine tkz 2 rfl ?_
 refine tkz 3 rfl ?_
 refine tkz 4 rfl ?_
 refine rd1 5 (fun K hK=>?_)
 go_simp
 refine (ridersIn_any l a cap sh ca hl _ ((HP.out.below FB.out (Nat.le_refl _)).mono FB.out.size)).mono ?_
 rintro e v_2 ⟨v,rfl,ho,hb⟩
 have F0:=zH (F0.out.below hb F0.out.lt)
 have FB:=tB FB hb
 clear hb
 have m0:=F0.out.c10
 obtain ⟨ra,rc,rfl⟩:=ho.sl
 clear ho
 try dsimp only
 refine kp hK (fun hHeld=>?_)
 clear hK K
 refine rd1 6 (fun K hK=>?_)
 go_simp
 refine kp hK (fun hHeld=>?_)
 clear hK K
 refine tkz 7 rfl ?_
 refine tkz 8 rfl ?_
 refine wpAnyH_done (by kernel_rfl) ?_ _
 go_wp2_with fail
 go_ret
 exact ⟨rfl,FB.out⟩
end Go.Proofs.YteimojoicfjdjaaGreat
