/- Parts of the proof: GrpE. -/
import Derived.Test.YteimojoicfjdjaaGreatZ26
namespace Go.Proofs.YteimojoicfjdjaaGreat
set_option maxRecDepth 20000
set_option maxHeartbeats 16000000
open Value renaming int → I
open IntKind renaming i64 → Z
open Go.RowKit Pl
set_option linter.unusedSimpArgs false
set_option linter.unusedVariables false
def mark1D(k:Int)(i:Nat):Dk:=⟨⟨⟨k + 13 * (i:Int),k + 13 * (i:Int) + 1,k + 13 * (i:Int) + 2⟩,⟨k + 13 * (i:Int) + 3,k + 13 * (i:Int) + 4,k + 13 * (i:Int) + 5⟩⟩,⟨⟨k + 13 * (i:Int) + 6,k + 13 * (i:Int) + 7⟩,⟨k + 13 * (i:Int) + 8,k + 13 * (i:Int) + 9⟩⟩,k + 13 * (i:Int) + 10,k + 13 * (i:Int) + 11,(Int.tmod (k + 13 * (i:Int) + 12) 3 == 0)⟩
def markLD(k:Int)(n:Nat):List Dk:=(List.range n).map (mark1D k)
theorem markLD_len(k:Int)(n:Nat):(markLD k n).length=n:=by simp [markLD]
theorem markLD_get{k:Int}{n i:Nat}(h:i < n):(markLD k n)[i]? = some (mark1D k i):=by simp [markLD,h]
theorem mark_stepD{k:Int}{l:List Dk}{i:Nat}(h:i < l.length):(markLD k i ++ l.drop i).set i (mark1D k i)=markLD k (i + 1) ++ l.drop (i + 1):=by
 rw [List.set_append_right _ _ (by rw [markLD_len];omega),markLD_len,Nat.sub_self,List.drop_eq_getElem_cons h,List.set_cons_zero]
 unfold markLD
 rw [List.range_succ,List.map_append]
 simp
theorem mark_atD{k:Int}{l:List Dk}{i:Nat}{p:Dk}(h:l[i]? = some p):(markLD k i ++ l.drop i)[i]? = some p:=by
 rw [List.getElem?_append_right (by rw [markLD_len];omega),markLD_len,Nat.sub_self,List.getElem?_drop,Nat.add_zero]
 exact h
theorem grown_putD(W:World)(g o:Nat)(p:Dk):W.grownBy (putD W g o p) (some g):=by
 have s:∀ (W:World) (q:Nat) (u:Value),W.grownBy (W.setCell ⟨g,q,none⟩ u) (some g):=fun W q u=>⟨rfl,rfl,rfl,by simp [World.setCell],fun i _ hne=>Below.heap_setCell _ _ _ _ (fun e=>hne (by rw [e]))⟩
 have t:∀ {a b c:World},a.grownBy b (some g)→b.grownBy c (some g)→a.grownBy c (some g):=fun h k=>grown_trans h k
 exact (t (t (t (t (t (t (t (t (t (t (t (t (s _ _ _) (s _ _ _)) (s _ _ _)) (s _ _ _)) (s _ _ _)) (s _ _ _)) (s _ _ _)) (s _ _ _)) (s _ _ _)) (s _ _ _)) (s _ _ _)) (s _ _ _)) (s _ _ _))
theorem markPersonS_owW(B g n cap:Nat)(l:List Pe)(k:Int)(k1:0≤k)(k2:k≤100000000)(hl:n≤1048576)(w:World)(h:Ow w B g n cap l) :
  Calls Tryz.prog 50 #[.slice (some ⟨g,0,none⟩) n cap,I Z k] w fun e w'=>e=.returned (I Z (k + 7 * n))∧Ow w' B g n cap (markL k n)∧w.grownBy w' (some g):=by
 have hn:=h.1
 have HO:=zH h
 clear h
 go_enter Tryz.func50,Tryz.ntmps50
 go_wp2_with fail
 go_loopw [1,5] (fun kk ii wr=>∃ i:Nat,ii=I Z i∧i≤n∧kk=I Z (k + 7 * (i:Int))∧Ow wr B g n cap (markL k i ++ l.drop i)∧w.grownBy wr (some g)) (fun _ ii _=>n - (intOf ii).toNat)
 case atStart=>exact ⟨0,rfl,by omega,by simp,by simpa [markL] using HO.out,World.grownBy.refl w _⟩
 case round=>
  obtain ⟨i,rfl,hi,rfl,ho,hg⟩:=hrel
  have FO:=zH ho
  have FG:=zH hg
  clear ho hg HO
  by_cases hlt:i < n
  ·obtain ⟨p,hp⟩:∃ p,l[i]? = some p:=⟨_,List.getElem?_eq_getElem (by omega)⟩
   have HZ:Hid ((markL k i ++ l.drop i)[i]? = some p):=mark_at hp
   have HE:Hid ((markL k i ++ l.drop i).set i (mark1 k i)=markL k (i + 1) ++ l.drop (i + 1)):=mark_step (by omega)
   obtain ⟨d0,d1,d2,d3,d4,d5,d6⟩:=FO.out.p7 HZ.out
   have f0:=FO.out.fz (i * 7)
   have f1:=FO.out.fz (i * 7 + 1)
   have f2:=FO.out.fz (i * 7 + 2)
   have f3:=FO.out.fz (i * 7 + 3)
   have f4:=FO.out.fz (i * 7 + 4)
   have f5:=FO.out.fz (i * 7 + 5)
   have f6:=FO.out.fz (i * 7 + 6)
   have e0:IntKind.i64.wrap (k + 7 * (i:Int) + 1)=k + 7 * (i:Int) + 1:=(IntWalk.i64_in _ (by omega)).trans (by omega)
   have e1:IntKind.i64.wrap (k + 7 * (i:Int) + 1 + 1)=k + 7 * (i:Int) + 2:=(IntWalk.i64_in _ (by omega)).trans (by omega)
   have e2:IntKind.i64.wrap (k + 7 * (i:Int) + 2 + 1)=k + 7 * (i:Int) + 3:=(IntWalk.i64_in _ (by omega)).trans (by omega)
   have e3:IntKind.i64.wrap (k + 7 * (i:Int) + 3 + 1)=k + 7 * (i:Int) + 4:=(IntWalk.i64_in _ (by omega)).trans (by omega)
   have e4:IntKind.i64.wrap (k + 7 * (i:Int) + 4 + 1)=k + 7 * (i:Int) + 5:=(IntWalk.i64_in _ (by omega)).trans (by omega)
   have e5:IntKind.i64.wrap (k + 7 * (i:Int) + 5 + 1)=k + 7 * (i:Int) + 6:=(IntWalk.i64_in _ (by omega)).trans (by omega)
   have e6:IntKind.i64.wrap (k + 7 * (i:Int) + 6 + 1)=k + 7 * (i:Int) + 7:=(IntWalk.i64_in _ (by omega)).trans (by omega)
   clear hp
   go_wp2_with fail
   go_roundw
   case rel=>exact ⟨i + 1,by simp,by omega,by congr 1;omega,HE.out ▸ FO.out.put (mark1 k i) HZ.out,grown_trans FG.out (grown_putP wr g (i * 7) (mark1 k i))⟩
   case measure=>simp [intOf];omega
  ·have ei:i=n:=by omega
   subst ei
   have HM:Hid (Ow wr B g i cap (markL k i)):=by
    have q:=FO.out
    rw [List.drop_eq_nil_of_le (by omega),List.append_nil] at q
    exact q
   clear FO
   go_wp2_with fail
   go_ret
   exact ⟨rfl,HM.out,FG.out⟩
theorem markPersonS_anyW(B:Nat)(v:Value)(l:List Pe)(k:Int)(k1:0≤k)(k2:k≤100000000)(hl:l.length≤1048576)(w:World)(h:Own w B v l) :
  Calls Tryz.prog 50 #[v,I Z k] w fun e w'=>e=.returned (I Z (k + 7 * l.length))∧Own w' B v (markL k l.length)∧w.grownBy w' v.ownBlock:=by
 rcases h.cases with ⟨rfl,rfl⟩ | ⟨g,cap,rfl,-⟩
 ·have HO:=zH h
  clear h
  go_enter Tryz.func50,Tryz.ntmps50
  go_wp2_with fail
  go_loopw [1,5] (fun kk ii wr=>ii=I Z 0∧kk=I Z k∧wr=w) (fun _ _ _=>0)
  case atStart=>exact ⟨rfl,rfl,rfl⟩
  case round=>
   obtain ⟨rfl,rfl,rfl⟩:=hrel
   go_wp2_with fail
   go_ret
   exact ⟨ret_int (by simp),HO.out,World.grownBy.refl _ _⟩
 ·refine (markPersonS_owW B g l.length cap l k k1 k2 hl w h.ow).mono ?_
  rintro e w' ⟨he,ho,hg⟩
  exact ⟨he,ho.own,hg⟩
theorem heldPersonS_owW(B g n cap:Nat)(k:Int)(k1:0≤k)(k2:k≤100000000)(hl:n≤1048576)(w:World)(h:Ow w B g n cap (markL k n)) :
  Calls Tryz.prog 99 #[.slice (some ⟨g,0,none⟩) n cap,I Z k] w fun e w'=>e=.returned (I Z (k + 7 * n))∧w'=w:=by
 have HO:=zH h
 clear h
 go_enter Tryz.func99,Tryz.ntmps99
 go_wp2_with fail
 go_loopw [1,5] (fun kk ii wr=>∃ i:Nat,ii=I Z i∧i≤n∧kk=I Z (k + 7 * (i:Int))∧wr=w) (fun _ ii _=>n - (intOf ii).toNat)
 case atStart=>exact ⟨0,rfl,by omega,by simp,rfl⟩
 case round=>
  obtain ⟨i,rfl,hi,rfl,rfl⟩:=hrel
  by_cases hlt:i < n
  ·obtain ⟨d0,d1,d2,d3,d4,d5,d6⟩:=HO.out.p7 (markL_get (k:=k) hlt)
   unfold mark1 at d0 d1 d2 d3 d4 d5 d6
   dsimp only at d0 d1 d2 d3 d4 d5 d6
   have e0:IntKind.i64.wrap (k + 7 * (i:Int) + 1)=k + 7 * (i:Int) + 1:=(IntWalk.i64_in _ (by omega)).trans (by omega)
   have e1:IntKind.i64.wrap (k + 7 * (i:Int) + 1 + 1)=k + 7 * (i:Int) + 2:=(IntWalk.i64_in _ (by omega)).trans (by omega)
   have e2:IntKind.i64.wrap (k + 7 * (i:Int) + 2 + 1)=k + 7 * (i:Int) + 3:=(IntWalk.i64_in _ (by omega)).trans (by omega)
   have e3:IntKind.i64.wrap (k + 7 * (i:Int) + 3 + 1)=k + 7 * (i:Int) + 4:=(IntWalk.i64_in _ (by omega)).trans (by omega)
   have e4:IntKind.i64.wrap (k + 7 * (i:Int) + 4 + 1)=k + 7 * (i:Int) + 5:=(IntWalk.i64_in _ (by omega)).trans (by omega)
   have e5:IntKind.i64.wrap (k + 7 * (i:Int) + 5 + 1)=k + 7 * (i:Int) + 6:=(IntWalk.i64_in _ (by omega)).trans (by omega)
   have e6:IntKind.i64.wrap (k + 7 * (i:Int) + 6 + 1)=k + 7 * (i:Int) + 7:=(IntWalk.i64_in _ (by omega)).trans (by omega)
   go_wp2_with fail
   go_roundw
   case rel=>exact ⟨i + 1,by simp,by omega,by congr 1;omega,by first | rfl | trivial⟩
   case measure=>simp [intOf];omega
  ·have ei:i=n:=by omega
   subst ei
   go_wp2_with fail
   go_ret
   exact ⟨rfl,rfl⟩
theorem heldPersonS_anyW(B:Nat)(v:Value)(n:Nat)(k:Int)(k1:0≤k)(k2:k≤100000000)(hl:n≤1048576)(w:World)(h:Own w B v (markL k n)) :
  Calls Tryz.prog 99 #[v,I Z k] w fun e w'=>e=.returned (I Z (k + 7 * n))∧w'=w:=by
 rcases h.cases with ⟨rfl,hz⟩ | ⟨g,cap,rfl,-⟩
 ·have hn:n=0:=by
   have:=markL_len k n
   rw [hz] at this
   simpa using this.symm
  subst hn
  clear h hz
  go_enter Tryz.func99,Tryz.ntmps99
  go_wp2_with fail
  go_loopw [1,5] (fun kk ii wr=>ii=I Z 0∧kk=I Z k∧wr=w) (fun _ _ _=>0)
  case atStart=>exact ⟨rfl,rfl,rfl⟩
  case round=>
   obtain ⟨rfl,rfl,rfl⟩:=hrel
   go_wp2_with fail
   go_ret
   exact ⟨ret_int (by simp),rfl⟩
 ·have q:=h.ow
  rw [markL_len] at q ⊢
  exact heldPersonS_owW B g n cap k k1 k2 hl w q
theorem markLedger_anyW(B:Nat)(nx:Int)(v:Value)(l:List Pe)(k:Int)(k1:0≤k)(k2:k≤100000000)(hl:l.length≤1048576)(w:World)(h:Own w B v l) :
  Calls Tryz.prog 30 #[.agg #[I Z nx,v],I Z k] w fun e w'=>e=.returned (I Z (k + 7 * l.length))∧Own w' B v (markL k l.length)∧Turn w w' v:=by
 have hlt:∀ j,v.ownBlock=some j→j < w.heap.size:=fun j hj=>(h.lt j hj).2
 have HO:Hid (Own (w.alloc (.cells #[I Z nx,v] 35)) B v l):=h.alloc _
 have HG:Hid (Turn w (w.alloc (.cells #[I Z nx,v] 35)) v):=⟨World.grownBy_alloc w _ _⟩
 clear h
 go_enter Tryz.func30,Tryz.ntmps30
 go_wp2_with (go_at_call 50;refine (markPersonS_anyW B v l k k1 k2 hl _ HO.out).mono ?_;rintro e w1 ⟨rfl,ho,hg⟩;have HO:=zH ho;have HG:Hid (Turn w w1 v):=HG.out.trans ⟨hg⟩;clear ho hg)
 go_ret
 exact ⟨rfl,HO.out,HG.out⟩
theorem heldLedger_anyW(B:Nat)(nx:Int)(v:Value)(n:Nat)(k:Int)(k1:0≤k)(k2:k≤100000000)(hl:n≤1048576)(w:World)(h:Own w B v (markL k n)) :
  Calls Tryz.prog 52 #[.agg #[I Z nx,v],I Z k] w fun e w'=>e=.returned (I Z (k + 7 * n))∧Below w.heap.size w w':=by
 have HO:Hid (Own (w.alloc (.cells #[I Z nx,v] 35)) B v (markL k n)):=h.alloc _
 have FB:Hid (Below w.heap.size w (w.alloc (.cells #[I Z nx,v] 35))):=(Below.refl _ _).alloc (Nat.le_refl _) _
 clear h
 go_enter Tryz.func52,Tryz.ntmps52
 go_wp2_with (go_at_call 99;refine (heldPersonS_anyW B v n k k1 k2 hl _ HO.out).mono ?_;rintro e w1 ⟨rfl,hb⟩;obtain rfl:=hb.symm;clear hb)
 go_ret
 exact ⟨rfl,FB.out⟩
theorem markDeckS_ow(B g n cap:Nat)(l:List Dk)(k:Int)(k1:0≤k)(k2:k≤100000000)(hl:n≤1048576)(w:World)(h:OwD w B g n cap l) :
  Calls Tryz.prog 29 #[.slice (some ⟨g,0,none⟩) n cap,I Z k] w fun e w'=>e=.returned (I Z (k + 13 * n))∧OwD w' B g n cap (markLD k n)∧w.grownBy w' (some g):=by
 have hn:=h.1
 have HO:=zH h
 clear h
 go_enter Tryz.func29,Tryz.ntmps29
 go_wp2_with fail
 go_loopw [1,5] (fun kk ii wr=>∃ i:Nat,ii=I Z i∧i≤n∧kk=I Z (k + 13 * (i:Int))∧OwD wr B g n cap (markLD k i ++ l.drop i)∧w.grownBy wr (some g)) (fun _ ii _=>n - (intOf ii).toNat)
 case atStart=>exact ⟨0,rfl,by omega,by simp,by simpa [markLD] using HO.out,World.grownBy.refl w _⟩
 case round=>
  obtain ⟨i,rfl,hi,rfl,ho,hg⟩:=hrel
  have FO:=zH ho
  have FG:=zH hg
  clear ho hg HO
  by_cases hlt:i < n
  ·obtain ⟨p,hp⟩:∃ p,l[i]? = some p:=⟨_,List.getElem?_eq_getElem (by omega)⟩
   have HZ:Hid ((markLD k i ++ l.drop i)[i]? = some p):=mark_atD hp
   have HE:Hid ((markLD k i ++ l.drop i).set i (mark1D k i)=markLD k (i + 1) ++ l.drop (i + 1)):=mark_stepD (by omega)
   obtain ⟨d0,d1,d2,d3,d4,d5,d6,d7,d8,d9,d10,d11,d12⟩:=FO.out.d13 HZ.out
   have f0:=FO.out.fz (i * 13)
   have f1:=FO.out.fz (i * 13 + 1)
   have f2:=FO.out.fz (i * 13 + 2)
   have f3:=FO.out.fz (i * 13 + 3)
   have f4:=FO.out.fz (i * 13 + 4)
   have f5:=FO.out.fz (i * 13 + 5)
   have f6:=FO.out.fz (i * 13 + 6)
   have f7:=FO.out.fz (i * 13 + 7)
   have f8:=FO.out.fz (i * 13 + 8)
   have f9:=FO.out.fz (i * 13 + 9)
   have f10:=FO.out.fz (i * 13 + 10)
   have f11:=FO.out.fz (i * 13 + 11)
   have f12:=FO.out.fz (i * 13 + 12)
   have e0:IntKind.i64.wrap (k + 13 * (i:Int) + 1)=k + 13 * (i:Int) + 1:=(IntWalk.i64_in _ (by omega)).trans (by omega)
   have e1:IntKind.i64.wrap (k + 13 * (i:Int) + 1 + 1)=k + 13 * (i:Int) + 2:=(IntWalk.i64_in _ (by omega)).trans (by omega)
   have e2:IntKind.i64.wrap (k + 13 * (i:Int) + 2 + 1)=k + 13 * (i:Int) + 3:=(IntWalk.i64_in _ (by omega)).trans (by omega)
   have e3:IntKind.i64.wrap (k + 13 * (i:Int) + 3 + 1)=k + 13 * (i:Int) + 4:=(IntWalk.i64_in _ (by omega)).trans (by omega)
   have e4:IntKind.i64.wrap (k + 13 * (i:Int) + 4 + 1)=k + 13 * (i:Int) + 5:=(IntWalk.i64_in _ (by omega)).trans (by omega)
   have e5:IntKind.i64.wrap (k + 13 * (i:Int) + 5 + 1)=k + 13 * (i:Int) + 6:=(IntWalk.i64_in _ (by omega)).trans (by omega)
   have e6:IntKind.i64.wrap (k + 13 * (i:Int) + 6 + 1)=k + 13 * (i:Int) + 7:=(IntWalk.i64_in _ (by omega)).trans (by omega)
   have e7:IntKind.i64.wrap (k + 13 * (i:Int) + 7 + 1)=k + 13 * (i:Int) + 8:=(IntWalk.i64_in _ (by omega)).trans (by omega)
   have e8:IntKind.i64.wrap (k + 13 * (i:Int) + 8 + 1)=k + 13 * (i:Int) + 9:=(IntWalk.i64_in _ (by omega)).trans (by omega)
   have e9:IntKind.i64.wrap (k + 13 * (i:Int) + 9 + 1)=k + 13 * (i:Int) + 10:=(IntWalk.i64_in _ (by omega)).trans (by omega)
   have e10:IntKind.i64.wrap (k + 13 * (i:Int) + 10 + 1)=k + 13 * (i:Int) + 11:=(IntWalk.i64_in _ (by omega)).trans (by omega)
   have e11:IntKind.i64.wrap (k + 13 * (i:Int) + 11 + 1)=k + 13 * (i:Int) + 12:=(IntWalk.i64_in _ (by omega)).trans (by omega)
   have e12:IntKind.i64.wrap (k + 13 * (i:Int) + 12 + 1)=k + 13 * (i:Int) + 13:=(IntWalk.i64_in _ (by omega)).trans (by omega)
   obtain ⟨m,hm⟩:∃ m,Int.tmod (k + 13 * (i:Int) + 12) 3=m:=⟨_,rfl⟩
   have mb:0≤m∧m < 3:=by rw [← hm,Int.tmod_eq_emod_of_nonneg (by omega)];omega
   have wm:IntKind.i64.wrap m=m:=IntWalk.i64_in _ (by omega)
   have HM0:Hid (mark1D k i=⟨⟨⟨k + 13 * (i:Int),k + 13 * (i:Int) + 1,k + 13 * (i:Int) + 2⟩,⟨k + 13 * (i:Int) + 3,k + 13 * (i:Int) + 4,k + 13 * (i:Int) + 5⟩⟩,⟨⟨k + 13 * (i:Int) + 6,k + 13 * (i:Int) + 7⟩,⟨k + 13 * (i:Int) + 8,k + 13 * (i:Int) + 9⟩⟩,k + 13 * (i:Int) + 10,k + 13 * (i:Int) + 11,(m == 0)⟩):=by unfold mark1D;rw [hm];exact rfl
   clear hp
   go_wp2_with fail
   go_roundw
   case rel=>exact ⟨i + 1,by simp,by omega,by congr 1;omega,HE.out ▸ HM0.out ▸ FO.out.put (⟨⟨⟨k + 13 * (i:Int),k + 13 * (i:Int) + 1,k + 13 * (i:Int) + 2⟩,⟨k + 13 * (i:Int) + 3,k + 13 * (i:Int) + 4,k + 13 * (i:Int) + 5⟩⟩,⟨⟨k + 13 * (i:Int) + 6,k + 13 * (i:Int) + 7⟩,⟨k + 13 * (i:Int) + 8,k + 13 * (i:Int) + 9⟩⟩,k + 13 * (i:Int) + 10,k + 13 * (i:Int) + 11,(m == 0)⟩:Dk) HZ.out,grown_trans FG.out (grown_putD wr g (i * 13) (⟨⟨⟨k + 13 * (i:Int),k + 13 * (i:Int) + 1,k + 13 * (i:Int) + 2⟩,⟨k + 13 * (i:Int) + 3,k + 13 * (i:Int) + 4,k + 13 * (i:Int) + 5⟩⟩,⟨⟨k + 13 * (i:Int) + 6,k + 13 * (i:Int) + 7⟩,⟨k + 13 * (i:Int) + 8,k + 13 * (i:Int) + 9⟩⟩,k + 13 * (i:Int) + 10,k + 13 * (i:Int) + 11,(m == 0)⟩:Dk))⟩
   case measure=>simp [intOf];omega
  ·have ei:i=n:=by omega
   subst ei
   have HM:Hid (OwD wr B g i cap (markLD k i)):=by
    have q:=FO.out
    rw [List.drop_eq_nil_of_le (by omega),List.append_nil] at q
    exact q
   clear FO
   go_wp2_with fail
   go_ret
   exact ⟨rfl,HM.out,FG.out⟩
theorem markDeckS_any(B:Nat)(v:Value)(l:List Dk)(k:Int)(k1:0≤k)(k2:k≤100000000)(hl:l.length≤1048576)(w:World)(h:OwnD w B v l) :
  Calls Tryz.prog 29 #[v,I Z k] w fun e w'=>e=.returned (I Z (k + 13 * l.length))∧OwnD w' B v (markLD k l.length)∧w.grownBy w' v.ownBlock:=by
 rcases h.cases with ⟨rfl,rfl⟩ | ⟨g,cap,rfl,-⟩
 ·have HO:=zH h
  clear h
  go_enter Tryz.func29,Tryz.ntmps29
  go_wp2_with fail
  go_loopw [1,5] (fun kk ii wr=>ii=I Z 0∧kk=I Z k∧wr=w) (fun _ _ _=>0)
  case atStart=>exact ⟨rfl,rfl,rfl⟩
  case round=>
   obtain ⟨rfl,rfl,rfl⟩:=hrel
   go_wp2_with fail
   go_ret
   exact ⟨ret_int (by simp),HO.out,World.grownBy.refl _ _⟩
 ·refine (markDeckS_ow B g l.length cap l k k1 k2 hl w h.ow).mono ?_
  rintro e w' ⟨he,ho,hg⟩
  exact ⟨he,ho.own,hg⟩
theorem heldDeckS_ow(B g n cap:Nat)(k:Int)(k1:0≤k)(k2:k≤100000000)(hl:n≤1048576)(w:World)(h:OwD w B g n cap (markLD k n)) :
  Calls Tryz.prog 51 #[.slice (some ⟨g,0,none⟩) n cap,I Z k] w fun e w'=>e=.returned (I Z (k + 13 * n))∧w'=w:=by
 have HO:=zH h
 clear h
 go_enter Tryz.func51,Tryz.ntmps51
 go_wp2_with fail
 go_loopw [1,5] (fun kk ii wr=>∃ i:Nat,ii=I Z i∧i≤n∧kk=I Z (k + 13 * (i:Int))∧wr=w) (fun _ ii _=>n - (intOf ii).toNat)
 case atStart=>exact ⟨0,rfl,by omega,by simp,rfl⟩
 case round=>
  obtain ⟨i,rfl,hi,rfl,rfl⟩:=hrel
  by_cases hlt:i < n
  ·have HDM:=HO.out.d13 (markLD_get (k:=k) hlt)
   have e0:IntKind.i64.wrap (k + 13 * (i:Int) + 1)=k + 13 * (i:Int) + 1:=(IntWalk.i64_in _ (by omega)).trans (by omega)
   have e1:IntKind.i64.wrap (k + 13 * (i:Int) + 1 + 1)=k + 13 * (i:Int) + 2:=(IntWalk.i64_in _ (by omega)).trans (by omega)
   have e2:IntKind.i64.wrap (k + 13 * (i:Int) + 2 + 1)=k + 13 * (i:Int) + 3:=(IntWalk.i64_in _ (by omega)).trans (by omega)
   have e3:IntKind.i64.wrap (k + 13 * (i:Int) + 3 + 1)=k + 13 * (i:Int) + 4:=(IntWalk.i64_in _ (by omega)).trans (by omega)
   have e4:IntKind.i64.wrap (k + 13 * (i:Int) + 4 + 1)=k + 13 * (i:Int) + 5:=(IntWalk.i64_in _ (by omega)).trans (by omega)
   have e5:IntKind.i64.wrap (k + 13 * (i:Int) + 5 + 1)=k + 13 * (i:Int) + 6:=(IntWalk.i64_in _ (by omega)).trans (by omega)
   have e6:IntKind.i64.wrap (k + 13 * (i:Int) + 6 + 1)=k + 13 * (i:Int) + 7:=(IntWalk.i64_in _ (by omega)).trans (by omega)
   have e7:IntKind.i64.wrap (k + 13 * (i:Int) + 7 + 1)=k + 13 * (i:Int) + 8:=(IntWalk.i64_in _ (by omega)).trans (by omega)
   have e8:IntKind.i64.wrap (k + 13 * (i:Int) + 8 + 1)=k + 13 * (i:Int) + 9:=(IntWalk.i64_in _ (by omega)).trans (by omega)
   have e9:IntKind.i64.wrap (k + 13 * (i:Int) + 9 + 1)=k + 13 * (i:Int) + 10:=(IntWalk.i64_in _ (by omega)).trans (by omega)
   have e10:IntKind.i64.wrap (k + 13 * (i:Int) + 10 + 1)=k + 13 * (i:Int) + 11:=(IntWalk.i64_in _ (by omega)).trans (by omega)
   have e11:IntKind.i64.wrap (k + 13 * (i:Int) + 11 + 1)=k + 13 * (i:Int) + 12:=(IntWalk.i64_in _ (by omega)).trans (by omega)
   have e12:IntKind.i64.wrap (k + 13 * (i:Int) + 12 + 1)=k + 13 * (i:Int) + 13:=(IntWalk.i64_in _ (by omega)).trans (by omega)
   obtain ⟨m,hm⟩:∃ m,Int.tmod (k + 13 * (i:Int) + 12) 3=m:=⟨_,rfl⟩
   have mb:0≤m∧m < 3:=by rw [← hm,Int.tmod_eq_emod_of_nonneg (by omega)];omega
   have wm:IntKind.i64.wrap m=m:=IntWalk.i64_in _ (by omega)
   have HM0:Hid (mark1D k i=⟨⟨⟨k + 13 * (i:Int),k + 13 * (i:Int) + 1,k + 13 * (i:Int) + 2⟩,⟨k + 13 * (i:Int) + 3,k + 13 * (i:Int) + 4,k + 13 * (i:Int) + 5⟩⟩,⟨⟨k + 13 * (i:Int) + 6,k + 13 * (i:Int) + 7⟩,⟨k + 13 * (i:Int) + 8,k + 13 * (i:Int) + 9⟩⟩,k + 13 * (i:Int) + 10,k + 13 * (i:Int) + 11,(m == 0)⟩):=by unfold mark1D;rw [hm];exact rfl
   rw [HM0.out] at HDM
   obtain ⟨d0,d1,d2,d3,d4,d5,d6,d7,d8,d9,d10,d11,d12⟩:=HDM
   go_wp2_with fail
   go_roundw
   case rel=>exact ⟨i + 1,by simp,by omega,by congr 1;omega,by first | rfl | trivial⟩
   case measure=>simp [intOf];omega
  ·have ei:i=n:=by omega
   subst ei
   go_wp2_with fail
   go_ret
   exact ⟨rfl,rfl⟩
theorem heldDeckS_any(B:Nat)(v:Value)(n:Nat)(k:Int)(k1:0≤k)(k2:k≤100000000)(hl:n≤1048576)(w:World)(h:OwnD w B v (markLD k n)) :
  Calls Tryz.prog 51 #[v,I Z k] w fun e w'=>e=.returned (I Z (k + 13 * n))∧w'=w:=by
 rcases h.cases with ⟨rfl,hz⟩ | ⟨g,cap,rfl,-⟩
 ·have hn:n=0:=by
   have:=markLD_len k n
   rw [hz] at this
   simpa using this.symm
  subst hn
  clear h hz
  go_enter Tryz.func51,Tryz.ntmps51
  go_wp2_with fail
  go_loopw [1,5] (fun kk ii wr=>ii=I Z 0∧kk=I Z k∧wr=w) (fun _ _ _=>0)
  case atStart=>exact ⟨rfl,rfl,rfl⟩
  case round=>
   obtain ⟨rfl,rfl,rfl⟩:=hrel
   go_wp2_with fail
   go_ret
   exact ⟨ret_int (by simp),rfl⟩
 ·have q:=h.ow
  rw [markLD_len] at q ⊢
  exact heldDeckS_ow B g n cap k k1 k2 hl w q
structure Turn2(w w':World)(u v:Value):Prop where
 os:w'.os=w.os
 tape:w'.tape=w.tape
 output:w'.output=w.output
 size:w.heap.size≤w'.heap.size
 block:∀ i,i < w.heap.size→some i ≠ u.ownBlock→some i ≠ v.ownBlock→w'.heap[i]? = w.heap[i]?
theorem Turn2.one{w w':World}{u:Value}(v:Value)(h:w.grownBy w' u.ownBlock):Turn2 w w' u v:=⟨h.os,h.tape,h.output,h.size,fun i hi a _=>h.block i hi a⟩
theorem Turn2.two{w w':World}{v:Value}(u:Value)(h:w.grownBy w' v.ownBlock):Turn2 w w' u v:=⟨h.os,h.tape,h.output,h.size,fun i hi _ a=>h.block i hi a⟩
theorem Turn2.trans{a b c:World}{u v:Value}(h:Turn2 a b u v)(k:Turn2 b c u v):Turn2 a c u v:=⟨k.os.trans h.os,k.tape.trans h.tape,k.output.trans h.output,Nat.le_trans h.size k.size,fun i hi x y=>(k.block i (Nat.lt_of_lt_of_le hi h.size) x y).trans (h.block i hi x y)⟩
theorem Turn2.alloc(w:World)(o:Obj)(u v:Value):Turn2 w (w.alloc o) u v:=⟨rfl,rfl,rfl,by simp,fun i hi _ _=>Below.heap_alloc w o i hi⟩
theorem Turn2.below{B:Nat}{a w w':World}{u v:Value}(h:Below B a w)(k:Turn2 w w' u v)(hu:∀ j,u.ownBlock=some j→B≤j)(hv:∀ j,v.ownBlock=some j→B≤j)(hB:B≤w.heap.size):Below B a w':=
 ⟨k.os.trans h.os,k.tape.trans h.tape,k.output.trans h.output,Nat.le_trans h.size k.size,fun i hi=>(k.block i (by omega) (fun e=>absurd (hu i e.symm) (by omega)) (fun e=>absurd (hv i e.symm) (by omega))).trans (h.block i hi)⟩
theorem markGroup_any(B:Nat)(h:Hs)(dv:Value)(nx:Int)(pv:Value)(tk:Int)(rc:Bool)(ds:List Dk)(ps:List Pe)(k:Int)(k1:0≤k)(k2:k≤100)(hld:ds.length≤1048576)(hlp:ps.length≤1048576)(w:World)(hd:OwnD w B dv ds)(hp:Own w B pv ps)(ne:∀ j,dv.ownBlock=some j→pv.ownBlock ≠ some j) :
  Calls Tryz.prog 10 #[.agg #[I Z h.fl,I Z h.gp,I Z h.ln,I Z h.rf,I Z h.sp,I Z h.pu,I Z h.br,I Z h.dr,I Z h.lv,I Z h.dO,I Z h.ld,I Z h.qu,dv,I Z nx,pv,I Z tk,.bool rc],I Z k] w fun e w'=>e=.returned (I Z (k + 13 * ds.length + 7 * ps.length))∧OwnD w' B dv (markLD k ds.length)∧Own w' B pv (markL (k + 13 * ds.length) ps.length)∧Turn2 w w' dv pv:=by
 have F0:Hid (Blk (w.alloc (.cells #[I Z h.fl,I Z h.gp,I Z h.ln,I Z h.rf,I Z h.sp,I Z h.pu,I Z h.br,I Z h.dr,I Z h.lv,I Z h.dO,I Z h.ld,I Z h.qu,dv,I Z nx,pv,I Z tk,.bool rc] 37)) w.heap.size (gvs h dv nx pv tk rc)):=Blk.at_ w #[I Z h.fl,I Z h.gp,I Z h.ln,I Z h.rf,I Z h.sp,I Z h.pu,I Z h.br,I Z h.dr,I Z h.lv,I Z h.dO,I Z h.ld,I Z h.qu,dv,I Z nx,pv,I Z tk,.bool rc] _ _ rfl
 have HD:Hid (OwnD (w.alloc (.cells #[I Z h.fl,I Z h.gp,I Z h.ln,I Z h.rf,I Z h.sp,I Z h.pu,I Z h.br,I Z h.dr,I Z h.lv,I Z h.dO,I Z h.ld,I Z h.qu,dv,I Z nx,pv,I Z tk,.bool rc] 37)) B dv ds):=hd.alloc _
 have HP:Hid (Own (w.alloc (.cells #[I Z h.fl,I Z h.gp,I Z h.ln,I Z h.rf,I Z h.sp,I Z h.pu,I Z h.br,I Z h.dr,I Z h.lv,I Z h.dO,I Z h.ld,I Z h.qu,dv,I Z nx,pv,I Z tk,.bool rc] 37)) B pv ps):=hp.alloc _
 have HT:Hid (Turn2 w (w.alloc (.cells #[I Z h.fl,I Z h.gp,I Z h.ln,I Z h.rf,I Z h.sp,I Z h.pu,I Z h.br,I Z h.dr,I Z h.lv,I Z h.dO,I Z h.ld,I Z h.qu,dv,I Z nx,pv,I Z tk,.bool rc] 37)) dv pv):=Turn2.alloc w _ _ _
 have nd:∀ j,dv.ownBlock=some j→j < w.heap.size:=fun j hj=>(hd.lt j hj).2
 have np:∀ j,pv.ownBlock=some j→j < w.heap.size:=fun j hj=>(hp.lt j hj).2
 have NE:Hid (pv.ownBlock=none ∨ pv.ownBlock ≠ dv.ownBlock):=by
  cases z:dv.ownBlock with
  | none=>cases y:pv.ownBlock with
   | none=>exact Or.inl rfl
   | some j=>exact Or.inr (by simp)
  | some j=>exact Or.inr (ne j z)
 have ND:Hid (dv.ownBlock=none ∨ dv.ownBlock ≠ pv.ownBlock):=by
  cases z:dv.ownBlock with
  | none=>exact Or.inl rfl
  | some j=>exact Or.inr (fun e=>ne j z e.symm)
 obtain ⟨W0,hW0⟩:∃ W0,W0=(w.alloc (.cells #[I Z h.fl,I Z h.gp,I Z h.ln,I Z h.rf,I Z h.sp,I Z h.pu,I Z h.br,I Z h.dr,I Z h.lv,I Z h.dO,I Z h.ld,I Z h.qu,dv,I Z nx,pv,I Z tk,.bool rc] 37)):=⟨_,rfl⟩
 rw [← hW0] at F0 HD HP HT
 have HW0:=zH hW0
 clear hW0 hd hp
 go_enter Tryz.func10,Tryz.ntmps10
 go_upto_region 1 with fail
 rw [← HW0.out]
 have x12:=F0.out.c 12 _ rfl
 go_upto_region 2 with (go_at_call 29;refine (markDeckS_any B dv ds k k1 (by omega) hld _ HD.out).mono ?_;rintro e w1 ⟨rfl,ho,hg⟩;have HD:=zH ho;have HP:Hid (Own w1 B pv ps):=HP.out.kept hg NE.out;have F0:Hid (Blk w1 w.heap.size (gvs h dv nx pv tk rc)):=F0.out.grown hg (fun e=>absurd (nd _ e.symm) (by omega));have HT:Hid (Turn2 w w1 dv pv):=HT.out.trans (Turn2.one _ hg);clear ho hg)
 have x13:=F0.out.c 13 _ rfl
 have x14:=F0.out.c 14 _ rfl
 go_wp2_with (go_at_call 30;refine (markLedger_anyW B nx pv ps (k + 13 * ds.length) (by omega) (by omega) hlp _ HP.out).mono ?_;rintro e w2 ⟨rfl,ho,hg⟩;have HP:=zH ho;have HD:Hid (OwnD w2 B dv (markLD k ds.length)):=HD.out.kept hg.g ND.out;have HT:Hid (Turn2 w w2 dv pv):=HT.out.trans (Turn2.two _ hg.g);clear ho hg)
 go_ret
 exact ⟨rfl,HD.out,HP.out,HT.out⟩
end Go.Proofs.YteimojoicfjdjaaGreat
