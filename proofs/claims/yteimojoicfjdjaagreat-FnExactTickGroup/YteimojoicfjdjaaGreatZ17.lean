/- Parts of the proof: PersC, PersD. -/
import Derived.Test.YteimojoicfjdjaaGreatZ13
import Derived.Deep.RegionHeld3
namespace Go.Proofs.YteimojoicfjdjaaGreat
set_option maxRecDepth 20000
set_option maxHeartbeats 16000000
open Value renaming int → I
open IntKind renaming i64 → Z
open Go.RowKit Pl
set_option linter.unusedSimpArgs false
set_option linter.unusedVariables false
theorem szPersonS_any(a:Option Addr)(len cap:Nat)(left:Int)(h1:0≤left)(h2:left≤1048576)(hl:len≤maxLen)(w:World) :
  Calls Tryz.prog 32 #[.slice a len cap,I Z left] w fun e w'=>e=.returned (I Z (if left < len then -1 else left - len))∧w'=w:=by
 unfold maxLen at hl
 have ew:IntKind.i64.wrap (left - len)=left - len:=IntWalk.i64_in _ (by omega)
 by_cases c:left < len
 ·rw [if_pos c]
  have d:decide (left - len < 0)=true:=decide_eq_true (by omega)
  go_enter Tryz.func32,Tryz.ntmps32
  go_wp2
  go_ret
  exact ⟨rfl,rfl⟩
 ·rw [if_neg c]
  have d:decide (left - len < 0)=false:=decide_eq_false (by omega)
  go_enter Tryz.func32,Tryz.ntmps32
  go_wp2
  go_ret
  exact ⟨rfl,rfl⟩
theorem toPerson_any(p:Pe)(w:World) :
  Calls Tryz.prog 75 #[.agg #[I Z p.id,I Z p.fr,I Z p.tw,I Z p.sh,I Z p.ca,I Z p.st,I Z p.pl]] w fun e w'=>e=.returned (.agg #[I Z p.id,I Z p.fr,I Z p.tw,I Z p.sh,I Z p.ca,I Z p.st,I Z p.pl])∧Below w.heap.size w w':=by
 go_enter Tryz.func75,Tryz.ntmps75
 go_wp2
 exact bodyPost_ret (v:=.agg #[I Z p.id,I Z p.fr,I Z p.tw,I Z p.sh,I Z p.ca,I Z p.st,I Z p.pl]) (by simp [results,Tryz.results75,go_sem]) rfl ⟨rfl,by repeat (first | exact Below.refl _ _ | (refine Below.alloc ?_ ?_ _) | (refine Below.setCell ?_ ?_ _) | (simp;omega) | simp)⟩
theorem infoPE:(Tryz.prog.info? 79).map (fun i=>(i.zero,i.size,i.bytes))=some (some (.agg (cells7 zeroP).toArray),7,56):=by kernel_rfl
theorem undPS:Tryz.prog.underlying 33=some (.slice 79):=by kernel_rfl
theorem make_people(n:Nat)(hn:n≤1048576)(w:World):(Instr.makeSlice 33 (I Z (n:Int)) (I Z (n:Int))).run Tryz.prog w=.ok (.slice (some ⟨w.heap.size,0,none⟩) n n) (w.alloc (.cells (madeCells (cells7 zeroP).toArray (n * 7)) 79)):=by
 obtain ⟨i,hi,hz,hs,hb⟩:=info_parts infoPE
 have r:=run_make (P:=Tryz.prog) w 33 79 i (.agg (cells7 zeroP).toArray) undPS hi hz .i64 .i64 n n (by omega) (Int.le_refl _) (by rw [hb];omega) (by omega)
 rw [hs] at r
 have e:(Value.agg (cells7 zeroP).toArray).cells=(cells7 zeroP).toArray:=rfl
 rw [e] at r
 simpa using r
theorem own_made(n:Nat)(hn:n≤1048576)(w:World)(B:Nat)(hB:B≤w.heap.size):Ow (w.alloc (.cells (madeCells (cells7 zeroP).toArray (n * 7)) 79)) B w.heap.size n n (List.replicate n zeroP):=by
 have a:=World.ownsRow_lit (base:=B) (e:=79) (size:=7) w (madeCells (cells7 zeroP).toArray (n * 7)) n hB (by unfold maxLen;omega) (size_madeCells _ _)
 rw [made_flat] at a
 exact ⟨List.length_replicate ..,a⟩
theorem take_rep{l:List Pe}{i:Nat}{p:Pe}(h:l[i]? = some p):(l.take i ++ List.replicate (l.length - i) zeroP).set i p=l.take (i + 1) ++ List.replicate (l.length - (i + 1)) zeroP:=by
 have hi:i < l.length:=(List.getElem?_eq_some_iff.1 h).1
 have e:l[i]=p:=(List.getElem?_eq_some_iff.1 h).2
 rw [List.set_append_right _ _ (by rw [List.length_take];omega),List.length_take,Nat.min_eq_left (by omega),Nat.sub_self]
 rw [show l.length - i=(l.length - (i + 1)) + 1 by omega,List.replicate_succ,List.set_cons_zero,List.take_succ_eq_append_getElem hi,e]
 simp
theorem toPersonS_any(a0:Option Addr)(cap:Nat)(l:List Pe)(hl:l.length≤1048576)(w:World)(hP:PIn w w.heap.size a0 l) :
  Calls Tryz.prog 41 #[.slice a0 l.length cap] w fun e w'=>∃ g,e=.returned (.slice (some ⟨g,0,none⟩) l.length l.length)∧Ow w' w.heap.size g l.length l.length l∧Below w.heap.size w w':=by
 have hmk:=make_people l.length hl
 have HP:=zH hP
 have HO:Hid (Ow (w.alloc (.cells (madeCells (cells7 zeroP).toArray (l.length * 7)) 79)) w.heap.size w.heap.size l.length l.length (List.replicate l.length zeroP)):=own_made l.length hl w w.heap.size (Nat.le_refl _)
 clear hP
 go_enter Tryz.func41,Tryz.ntmps41
 go_wp2_with fail
 clear hmk
 go_loopw [4] (fun ii wr=>∃ i:Nat,ii=I Z i∧i≤l.length∧Ow wr w.heap.size w.heap.size l.length l.length (l.take i ++ List.replicate (l.length - i) zeroP)∧Below w.heap.size w wr) (fun ii _=>l.length - (intOf ii).toNat)
 case atStart=>exact ⟨0,rfl,by omega,by simpa using HO.out,(Below.refl _ _).alloc (Nat.le_refl _) _⟩
 case round=>
  obtain ⟨i,rfl,hi,ho,hb⟩:=hrel
  clear HO
  have FB:=zH hb
  have FO:=zH ho
  by_cases hlt:i < l.length
  ·obtain ⟨p,hp⟩:∃ p,l[i]? = some p:=⟨_,List.getElem?_eq_getElem hlt⟩
   rcases HP.out with h0 | ⟨b,o,rfl,hbl,h7⟩
   ·rw [h0] at hlt;simp at hlt
   obtain ⟨c0,c1,c2,c3,c4,c5,c6⟩:=(h7 i p hp).below hb hbl
   have hz:(l.take i ++ List.replicate (l.length - i) zeroP)[i]? = some zeroP:=by
    rw [List.getElem?_append_right (by rw [List.length_take];omega),List.length_take,Nat.min_eq_left (by omega),Nat.sub_self,List.getElem?_replicate,if_pos (by omega)]
   have HZ:=zH hz
   have HE:Hid ((l.take i ++ List.replicate (l.length - i) zeroP).set i p=l.take (i + 1) ++ List.replicate (l.length - (i + 1)) zeroP):=take_rep hp
   clear hp hz hb ho h7
   go_wp2_with (go_at_call 75;refine (toPerson_any p _).mono ?_;rintro e w1 ⟨rfl,hb⟩;have FO:Hid (Ow w1 w.heap.size w.heap.size l.length l.length (l.take i ++ List.replicate (l.length - i) zeroP)):=FO.out.below hb FO.out.bl.2;have FB:=tB FB hb;clear hb;obtain ⟨d0,d1,d2,d3,d4,d5,d6⟩:=FO.out.p7 HZ.out;have f0:=FO.out.fz (i * 7);have f1:=FO.out.fz (i * 7 + 1);have f2:=FO.out.fz (i * 7 + 2);have f3:=FO.out.fz (i * 7 + 3);have f4:=FO.out.fz (i * 7 + 4);have f5:=FO.out.fz (i * 7 + 5);have f6:=FO.out.fz (i * 7 + 6))
   go_roundw
   case rel=>exact ⟨i + 1,by simp,by omega,HE.out ▸ FO.out.put p HZ.out,below_putP FB.out (Nat.le_refl _) _ _⟩
   case measure=>simp [intOf];omega
  ·have ei:i=l.length:=by omega
   subst ei
   have HO:Hid (Ow wr w.heap.size w.heap.size l.length l.length l):=by
    have q:=FO.out
    rw [List.take_length,Nat.sub_self,List.replicate_zero,List.append_nil] at q
    exact q
   clear hb ho FO
   go_wp2_with fail
   go_ret
   exact ⟨_,rfl,HO.out,FB.out⟩
theorem szLedger_any(nx:Int)(a:Option Addr)(len cap:Nat)(left:Int)(h1:0≤left)(h2:left≤1048576)(hl:len≤maxLen)(w:World) :
  Calls Tryz.prog 14 #[.agg #[I Z nx,.slice a len cap],I Z left] w fun e w'=>e=.returned (I Z (if left < len then -1 else left - len))∧Below w.heap.size w w':=by
 have HB:Hid (Below w.heap.size w (w.alloc (.cells #[I Z nx,.slice a len cap] 27))):=(Below.refl _ _).alloc (Nat.le_refl _) _
 by_cases c:left < len
 ·rw [if_pos c]
  go_enter Tryz.func14,Tryz.ntmps14
  go_wp2_with (go_at_call 32;refine (szPersonS_any a len cap left h1 h2 hl _).mono ?_;rw [if_pos c];rintro e w' ⟨rfl,hw⟩;obtain rfl:=hw.symm;clear hw)
  go_ret
  exact ⟨rfl,HB.out⟩
 ·rw [if_neg c]
  have d:decide (left - len < 0)=false:=decide_eq_false (by omega)
  go_enter Tryz.func14,Tryz.ntmps14
  go_wp2_with (go_at_call 32;refine (szPersonS_any a len cap left h1 h2 hl _).mono ?_;rw [if_neg c];rintro e w' ⟨rfl,hw⟩;obtain rfl:=hw.symm;clear hw)
  go_ret
  exact ⟨rfl,HB.out⟩
theorem toLedger_any(nx:Int)(a0:Option Addr)(cap:Nat)(l:List Pe)(hl:l.length≤1048576)(w:World)(hP:PIn w w.heap.size a0 l) :
  Calls Tryz.prog 21 #[.agg #[I Z nx,.slice a0 l.length cap]] w fun e w'=>∃ g,e=.returned (.agg #[I Z nx,.slice (some ⟨g,0,none⟩) l.length l.length])∧Ow w' w.heap.size g l.length l.length l∧Below w.heap.size w w':=by
 have F0:Hid (LW (((w.alloc (.cells #[I Z nx,.slice a0 l.length cap] 27)).alloc (.cells #[I Z 0,.slice none 0 0] 35)).alloc (.cells #[I Z 0,.slice none 0 0] 35)) w.heap.size nx (.slice a0 l.length cap)):=((LW.at_ w nx (.slice a0 l.length cap) _ _ rfl).alloc _).alloc _
 have F1:Hid (LW (((w.alloc (.cells #[I Z nx,.slice a0 l.length cap] 27)).alloc (.cells #[I Z 0,.slice none 0 0] 35)).alloc (.cells #[I Z 0,.slice none 0 0] 35)) (w.heap.size + 1) 0 (.slice none 0 0)):=(LW.at_ _ 0 (.slice none 0 0) _ _ (by simp)).alloc _
 have F2:Hid (LW (((w.alloc (.cells #[I Z nx,.slice a0 l.length cap] 27)).alloc (.cells #[I Z 0,.slice none 0 0] 35)).alloc (.cells #[I Z 0,.slice none 0 0] 35)) (w.heap.size + 2) 0 (.slice none 0 0)):=LW.at_ _ 0 (.slice none 0 0) _ _ (by simp)
 have FB:Hid (Below w.heap.size w (((w.alloc (.cells #[I Z nx,.slice a0 l.length cap] 27)).alloc (.cells #[I Z 0,.slice none 0 0] 35)).alloc (.cells #[I Z 0,.slice none 0 0] 35))):=(((Below.refl _ _).alloc (Nat.le_refl _) _).alloc (by simp) _).alloc (by simp;omega) _
 have HP:=zH hP
 obtain ⟨W0,hW0⟩:∃ W0,W0=(((w.alloc (.cells #[I Z nx,.slice a0 l.length cap] 27)).alloc (.cells #[I Z 0,.slice none 0 0] 35)).alloc (.cells #[I Z 0,.slice none 0 0] 35)):=⟨_,rfl⟩
 rw [← hW0] at F0 F1 F2 FB
 have HW0:=zH hW0
 clear hW0 hP
 go_enter Tryz.func21,Tryz.ntmps21
 go_upto_region 2 with fail
 rw [← HW0.out]
 clear HW0
 obtain ⟨x0_0,x0_1,y0_0,y0_1⟩:=F0.out
 obtain ⟨x2_0,x2_1,y2_0,y2_1⟩:=F2.out
 go_upto_region 3 with fail
 obtain ⟨W1,hw_⟩:∃ W1,W1=W0.setCell ⟨w.heap.size + 2,0,none⟩ (I Z nx):=⟨_,rfl⟩
 rw [← hw_]
 have F0:Hid (LW W1 w.heap.size nx (.slice a0 l.length cap)):=by rw [hw_];exact F0.out.other (by omega)
 have F1:Hid (LW W1 (w.heap.size + 1) 0 (.slice none 0 0)):=by rw [hw_];exact F1.out.other (by omega)
 have F2:Hid (LW W1 (w.heap.size + 2) nx (.slice none 0 0)):=by rw [hw_];exact F2.out.set0 nx
 have FB:Hid (Below w.heap.size w W1):=by rw [hw_];exact FB.out.setCell (by simp) _
 clear hw_ x0_0 x0_1 y0_0 y0_1 x2_0 x2_1 y2_0 y2_1
 obtain ⟨x0_0,x0_1,y0_0,y0_1⟩:=F0.out
 obtain ⟨x2_0,x2_1,y2_0,y2_1⟩:=F2.out
 have l2:=F2.out.lt
 go_upto_region 4 with (go_at_call 41;refine (toPersonS_any a0 cap l hl _ ((HP.out.below FB.out (Nat.le_refl _)).mono FB.out.size)).mono ?_;rintro e w1 ⟨g,rfl,ho,hb⟩;have FO:=zH ho;have F1:=zH (F1.out.below hb F1.out.lt);have F2:=zH (F2.out.below hb F2.out.lt);have FB:=tB FB hb;clear hb ho;obtain ⟨x2_0,x2_1,y2_0,y2_1⟩:=F2.out)
 have lg:=FO.out.bl.1
 obtain ⟨W2,hw_⟩:∃ W2,W2=w1.setCell ⟨w.heap.size + 2,1,none⟩ (.slice (some ⟨g,0,none⟩) l.length l.length):=⟨_,rfl⟩
 rw [← hw_]
 have F1:Hid (LW W2 (w.heap.size + 1) 0 (.slice none 0 0)):=by rw [hw_];exact F1.out.other (by omega)
 have F2:Hid (LW W2 (w.heap.size + 2) nx (.slice (some ⟨g,0,none⟩) l.length l.length)):=by rw [hw_];exact F2.out.set1 _
 have FB:Hid (Below w.heap.size w W2):=by rw [hw_];exact FB.out.setCell (by simp) _
 have FO:Hid (Ow W2 W1.heap.size g l.length l.length l):=by rw [hw_];exact FO.out.other (by simp;omega) _
 have hB:=F1.out.lt
 have hle:w.heap.size≤W1.heap.size:=by omega
 clear hw_ x0_0 x0_1 y0_0 y0_1 x2_0 x2_1 y2_0 y2_1
 obtain ⟨x1_0,x1_1,y1_0,y1_1⟩:=F1.out
 obtain ⟨x2_0,x2_1,y2_0,y2_1⟩:=F2.out
 go_wp2_with fail
 exact bodyPost_ret (v:=.agg #[I Z nx,.slice (some ⟨g,0,none⟩) l.length l.length]) (by simp [results,Tryz.results21,go_sem,x1_0,x1_1]) rfl ⟨g,rfl,((FO.out.base hle).other (by simp;omega) _).other (by simp;omega) _,(FB.out.setCell (by simp) _).setCell (by simp) _⟩
set_option linter.unusedSimpArgs false
set_option linter.unusedVariables false
theorem eqPerson_same(p:Pe)(w:World) :
  Calls Tryz.prog 98 #[.agg #[I Z p.id,I Z p.fr,I Z p.tw,I Z p.sh,I Z p.ca,I Z p.st,I Z p.pl],.agg #[I Z p.id,I Z p.fr,I Z p.tw,I Z p.sh,I Z p.ca,I Z p.st,I Z p.pl]] w fun e w'=>e=.returned (.bool true)∧Below w.heap.size w w':=by
 go_enter Tryz.func98,Tryz.ntmps98
 go_wp2
 go_ret
 exact ⟨rfl,by repeat (first | exact Below.refl _ _ | (refine Below.alloc ?_ ?_ _) | (refine Below.setCell ?_ ?_ _) | (simp;omega) | simp)⟩
theorem eqPersonS_same(a a':Option Addr)(cap cap':Nat)(l:List Pe)(hl:l.length≤1048576)(w:World)(h0:PIn w w.heap.size a l)(h1:PIn w w.heap.size a' l) :
  Calls Tryz.prog 49 #[.slice a l.length cap,.slice a' l.length cap'] w fun e w'=>e=.returned (.bool true)∧Below w.heap.size w w':=by
 have H0:=zH h0
 have H1:=zH h1
 clear h0 h1
 go_enter Tryz.func49,Tryz.ntmps49
 go_wp2_with fail
 go_loopw [5] (fun ii wr=>∃ i:Nat,ii=I Z i∧i≤l.length∧Below w.heap.size w wr) (fun ii _=>l.length - (intOf ii).toNat)
 case atStart=>exact ⟨0,rfl,by omega,Below.refl _ _⟩
 case round=>
  obtain ⟨i,rfl,hi,hb⟩:=hrel
  have FB:=zH hb
  by_cases hlt:i < l.length
  ·obtain ⟨p,hp⟩:∃ p,l[i]? = some p:=⟨_,List.getElem?_eq_getElem hlt⟩
   rcases H0.out with h0 | ⟨b,o,rfl,hbl,h7⟩
   ·rw [h0] at hlt;simp at hlt
   rcases H1.out with h0 | ⟨b',o',rfl,hbl',h7'⟩
   ·rw [h0] at hlt;simp at hlt
   have F0:Hid (P7 wr b (o + i * 7) p):=(h7 i p hp).below hb hbl
   have F1:Hid (P7 wr b' (o' + i * 7) p):=(h7' i p hp).below hb hbl'
   clear hp h7 h7' hb
   go_wp2_with fail
   have F0:=zH (F0.out.below (Below.refl _ _).drew F0.out.lt)
   have F1:=zH (F1.out.below (Below.refl _ _).drew F1.out.lt)
   have FB:=zH (FB.out.drew)
   have m0:=F0.out.c0
   have m1:=F0.out.c1
   have m2:=F0.out.c2
   have m3:=F0.out.c3
   have m4:=F0.out.c4
   have m5:=F0.out.c5
   have m6:=F0.out.c6
   have n0:=F1.out.c0
   have n1:=F1.out.c1
   have n2:=F1.out.c2
   have n3:=F1.out.c3
   have n4:=F1.out.c4
   have n5:=F1.out.c5
   have n6:=F1.out.c6
   refine wp_region_held_drew (S:=(fun w''=>w''.cell? ⟨b,o + i * 7,none⟩=some (I Z p.id)∧w''.cell? ⟨b,o + i * 7 + 1,none⟩=some (I Z p.fr)∧w''.cell? ⟨b,o + i * 7 + 2,none⟩=some (I Z p.tw)∧w''.cell? ⟨b,o + i * 7 + 3,none⟩=some (I Z p.sh)∧w''.cell? ⟨b,o + i * 7 + 4,none⟩=some (I Z p.ca)∧w''.cell? ⟨b,o + i * 7 + 5,none⟩=some (I Z p.st)∧w''.cell? ⟨b,o + i * 7 + 6,none⟩=some (I Z p.pl)∧w''.cell? ⟨b',o' + i * 7,none⟩=some (I Z p.id)∧w''.cell? ⟨b',o' + i * 7 + 1,none⟩=some (I Z p.fr)∧w''.cell? ⟨b',o' + i * 7 + 2,none⟩=some (I Z p.tw)∧w''.cell? ⟨b',o' + i * 7 + 3,none⟩=some (I Z p.sh)∧w''.cell? ⟨b',o' + i * 7 + 4,none⟩=some (I Z p.ca)∧w''.cell? ⟨b',o' + i * 7 + 5,none⟩=some (I Z p.st)∧w''.cell? ⟨b',o' + i * 7 + 6,none⟩=some (I Z p.pl))) (by kernel_rfl) (by (try dsimp only);first | exact ⟨m0,m1,m2,m3,m4,m5,m6,n0,n1,n2,n3,n4,n5,n6⟩ | go_keep) (fun hHeld=>?_)
   obtain ⟨v_1,hw1⟩:∃ v_1,v_1=wr.drew:=⟨_,rfl⟩
   rw [← hw1] at F0 F1 FB hHeld ⊢
   clear hw1
   have m0:=F0.out.c0
   have m1:=F0.out.c1
   have m2:=F0.out.c2
   have m3:=F0.out.c3
   have m4:=F0.out.c4
   have m5:=F0.out.c5
   have m6:=F0.out.c6
   have n0:=F1.out.c0
   have n1:=F1.out.c1
   have n2:=F1.out.c2
   have n3:=F1.out.c3
   have n4:=F1.out.c4
   have n5:=F1.out.c5
   have n6:=F1.out.c6
   refine tkz 0 rfl ?_
   refine tkz 1 rfl ?_
   refine tkz 2 rfl ?_
   refine tkz 3 rfl ?_
   refine tkz 4 rfl ?_
   refine tkz 5 rfl ?_
   refine tkz 6 rfl ?_
   refine tkz 7 rfl ?_
   refine rd1 8 (fun K hK=>?_)
   go_simp
   refine (eqPerson_same p _).mono ?_
   rintro e v_2 ⟨rfl,hb⟩
   have F0:=zH (F0.out.below hb F0.out.lt)
   have F1:=zH (F1.out.below hb F1.out.lt)
   have FB:=tB FB hb
   clear hb
   have m0:=F0.out.c0
   have m1:=F0.out.c1
   have m2:=F0.out.c2
   have m3:=F0.out.c3
   have m4:=F0.out.c4
   have m5:=F0.out.c5
   have m6:=F0.out.c6
   have n0:=F1.out.c0
   have n1:=F1.out.c1
   have n2:=F1.out.c2
   have n3:=F1.out.c3
   have n4:=F1.out.c4
   have n5:=F1.out.c5
   have n6:=F1.out.c6
   try dsimp only
   refine kp hK (fun hHeld=>?_)
   clear hK K
   refine tkz 9 rfl ?_
   refine wpAnyH_done (by kernel_rfl) ?_ _
   go_wp2_with fail
   go_roundw
   case rel=>exact ⟨i + 1,by simp,by omega,FB.out⟩
   case measure=>simp [intOf];omega
  ·have ei:i=l.length:=by omega
   subst ei
   clear hb
   go_wp2_with fail
   go_ret
   exact ⟨rfl,FB.out⟩
theorem eqLedger_same(nx:Int)(a a':Option Addr)(cap cap':Nat)(l:List Pe)(hl:l.length≤1048576)(w:World)(h0:PIn w w.heap.size a l)(h1:PIn w w.heap.size a' l) :
  Calls Tryz.prog 28 #[.agg #[I Z nx,.slice a l.length cap],.agg #[I Z nx,.slice a' l.length cap']] w fun e w'=>e=.returned (.bool true)∧Below w.heap.size w w':=by
 have FB:Hid (Below w.heap.size w ((w.alloc (.cells #[I Z nx,.slice a l.length cap] 35)).alloc (.cells #[I Z nx,.slice a' l.length cap'] 35))):=((Below.refl _ _).alloc (Nat.le_refl _) _).alloc (by simp) _
 have H0:=zH h0
 have H1:=zH h1
 clear h0 h1
 go_enter Tryz.func28,Tryz.ntmps28
 go_wp2_with (go_at_call 49;refine (eqPersonS_same a a' cap cap' l hl _ ((H0.out.below FB.out (Nat.le_refl _)).mono FB.out.size) ((H1.out.below FB.out (Nat.le_refl _)).mono FB.out.size)).mono ?_;rintro e w1 ⟨rfl,hb⟩;have FB:=tB FB hb;clear hb)
 go_ret
 exact ⟨rfl,FB.out⟩
def mark1(k:Int)(i:Nat):Pe:=⟨(k + 7 * (i:Int)),(k + 7 * (i:Int)) + 1,(k + 7 * (i:Int)) + 2,(k + 7 * (i:Int)) + 3,(k + 7 * (i:Int)) + 4,(k + 7 * (i:Int)) + 5,(k + 7 * (i:Int)) + 6⟩
def markL(k:Int)(n:Nat):List Pe:=(List.range n).map (mark1 k)
theorem markL_len(k:Int)(n:Nat):(markL k n).length=n:=by simp [markL]
theorem markL_get{k:Int}{n i:Nat}(h:i < n):(markL k n)[i]? = some (mark1 k i):=by simp [markL,h]
theorem mark_step{k:Int}{l:List Pe}{i:Nat}(h:i < l.length):(markL k i ++ l.drop i).set i (mark1 k i)=markL k (i + 1) ++ l.drop (i + 1):=by
 rw [List.set_append_right _ _ (by rw [markL_len];omega),markL_len,Nat.sub_self,List.drop_eq_getElem_cons h,List.set_cons_zero]
 unfold markL
 rw [List.range_succ,List.map_append]
 simp
theorem mark_at{k:Int}{l:List Pe}{i:Nat}{p:Pe}(h:l[i]? = some p):(markL k i ++ l.drop i)[i]? = some p:=by
 rw [List.getElem?_append_right (by rw [markL_len];omega),markL_len,Nat.sub_self,List.getElem?_drop,Nat.add_zero]
 exact h
theorem grown_putP(W:World)(g o:Nat)(p:Pe):W.grownBy (putP W g o p) (some g):=by
 have s:∀ (W:World) (q:Nat) (u:Value),W.grownBy (W.setCell ⟨g,q,none⟩ u) (some g):=fun W q u=>⟨rfl,rfl,rfl,by simp [World.setCell],fun i _ hne=>Below.heap_setCell _ _ _ _ (fun e=>hne (by rw [e]))⟩
 have t:∀ {a b c:World},a.grownBy b (some g)→b.grownBy c (some g)→a.grownBy c (some g):=fun h k=>⟨k.os.trans h.os,k.tape.trans h.tape,k.output.trans h.output,Nat.le_trans h.size k.size,fun i hi hne=>(k.block i (Nat.lt_of_lt_of_le hi h.size) hne).trans (h.block i hi hne)⟩
 exact t (t (t (t (t (t (s _ _ _) (s _ _ _)) (s _ _ _)) (s _ _ _)) (s _ _ _)) (s _ _ _)) (s _ _ _)
theorem grown_trans{a b c:World}{row:Option Nat}(h:a.grownBy b row)(k:b.grownBy c row):a.grownBy c row:=⟨k.os.trans h.os,k.tape.trans h.tape,k.output.trans h.output,Nat.le_trans h.size k.size,fun i hi hne=>(k.block i (Nat.lt_of_lt_of_le hi h.size) hne).trans (h.block i hi hne)⟩
structure Turn(w w':World)(v:Value):Prop where
 g:w.grownBy w' v.ownBlock
theorem Turn.trans{a b c:World}{v:Value}(h:Turn a b v)(k:Turn b c v):Turn a c v:=⟨grown_trans h.g k.g⟩
end Go.Proofs.YteimojoicfjdjaaGreat
