/- Parts of the proof: Res, CarO, Quot, Stop, PersB, Ledg. -/
import Derived.Test.YteimojoicfjdjaaGreatZ2
import Derived.Test.YteimojoicfjdjaaGreatZ4
import Derived.Test.YteimojoicfjdjaaGreatZ6
import Derived.OwnWalk
import Derived.Laws.OwnMore
namespace Go.Proofs.YteimojoicfjdjaaGreat
open Value renaming int → I
open IntKind renaming i64 → Z
open Go.RowKit Pl
theorem isWithin_yes(n low high:Int)(h1:low≤n)(h2:n≤high)(w:World) :
  Calls Tryz.prog 23 #[I Z n,I Z low,I Z high] w fun e w'=>e=.returned (.bool true)∧w'=w:=by
 go_enter Tryz.func23,Tryz.ntmps23
 go_wp2
 go_ret
 exact ⟨rfl,rfl⟩
theorem isWithin_no(n low high:Int)(h:n < low ∨ high < n)(w:World) :
  Calls Tryz.prog 23 #[I Z n,I Z low,I Z high] w fun e w'=>e=.returned (.bool false)∧w'=w:=by
 by_cases h1:n < low
 ·go_enter Tryz.func23,Tryz.ntmps23
  go_wp2
  go_ret
  exact ⟨rfl,rfl⟩
 ·have h2:decide (n≤high)=false:=decide_eq_false (by omega)
  go_enter Tryz.func23,Tryz.ntmps23
  go_wp2
  go_ret
  exact ⟨rfl,rfl⟩
theorem l1In_yes(n low high:Int)(h1:low≤n)(h2:n≤high)(w:World) :
  Calls Tryz.prog 16 #[I Z n,I Z low,I Z high] w fun e w'=>e=.returned (.bool true)∧w'=w:=by
 go_enter Tryz.func16,Tryz.ntmps16
 go_wp2
 go_ret
 exact ⟨rfl,rfl⟩
theorem l1In_no(n low high:Int)(h:n < low ∨ high < n)(w:World) :
  Calls Tryz.prog 16 #[I Z n,I Z low,I Z high] w fun e w'=>e=.returned (.bool false)∧w'=w:=by
 by_cases h1:n < low
 ·go_enter Tryz.func16,Tryz.ntmps16
  go_wp2
  go_ret
  exact ⟨rfl,rfl⟩
 ·have h2:decide (n≤high)=false:=decide_eq_false (by omega)
  go_enter Tryz.func16,Tryz.ntmps16
  go_wp2
  go_ret
  exact ⟨rfl,rfl⟩
theorem isWithin_any(n low high:Int)(w:World) :
  Calls Tryz.prog 23 #[I Z n,I Z low,I Z high] w fun e w'=>e=.returned (.bool (inB n low high))∧w'=w:=by
 by_cases h:low≤n∧n≤high
 ·rw [inB_yes h.1 h.2];exact isWithin_yes n low high h.1 h.2 w
 ·rw [inB_no (by omega)];exact isWithin_no n low high (by omega) w
theorem l1In_any(n low high:Int)(w:World) :
  Calls Tryz.prog 16 #[I Z n,I Z low,I Z high] w fun e w'=>e=.returned (.bool (inB n low high))∧w'=w:=by
 by_cases h:low≤n∧n≤high
 ·rw [inB_yes h.1 h.2];exact l1In_yes n low high h.1 h.2 w
 ·rw [inB_no (by omega)];exact l1In_no n low high (by omega) w
end Go.Proofs.YteimojoicfjdjaaGreat
namespace Go.Proofs.YteimojoicfjdjaaGreat
set_option maxHeartbeats 1000000
open Go.RowKit Pl
theorem or_first(x y:Int)(hx:x ≠ 0)(b:Nat)(w:World)(c0:w.cell? ⟨b,0,none⟩=some (.int .i64 x))(_c1:w.cell? ⟨b,1,none⟩=some (.int .i64 y)) :
  Calls Tryz.prog 78 #[.slice (some ⟨b,0,none⟩) 2 2] w fun e w'=>e=.returned (.int .i64 x)∧w'=w:=by
 have hn:(x != 0)=true:=by simpa using hx
 clear hx
 go_enter Tryz.func78,Tryz.ntmps78
 go_wp2
 go_loop [8] (fun i=>i=.int .i64 0) (fun i=>(2 - intOf i).toNat)
 case atStart=>exact rfl
 case round=>
  subst hrel
  go_wp2
  go_ret
  exact ⟨rfl,rfl⟩
theorem or_second(x y:Int)(hx:x=0)(b:Nat)(w:World)(c0:w.cell? ⟨b,0,none⟩=some (.int .i64 x))(_c1:w.cell? ⟨b,1,none⟩=some (.int .i64 y)) :
  Calls Tryz.prog 78 #[.slice (some ⟨b,0,none⟩) 2 2] w fun e w'=>e=.returned (.int .i64 y)∧w'=w:=by
 subst hx
 go_enter Tryz.func78,Tryz.ntmps78
 go_wp2
 go_loop [8] (fun i=>i=.int .i64 0 ∨ i=.int .i64 1 ∨ (i=.int .i64 2∧y=0)) (fun i=>(2 - intOf i).toNat)
 case atStart=>exact Or.inl rfl
 case round=>
  rcases hrel with h | h | ⟨h,hy⟩
  ·subst h
   go_wp2
   go_round
   case rel=>exact Or.inr (Or.inl rfl)
   case measure=>simp [intOf]
  ·subst h
   by_cases hy:y=0
   ·subst hy
    go_wp2
    go_round
    case rel=>exact Or.inr (Or.inr ⟨rfl,trivial⟩)
    case measure=>simp [intOf]
   ·have hn:(y != 0)=true:=by simpa using hy
    clear hy
    go_wp2
    go_ret
    exact ⟨rfl,rfl⟩
  ·subst h
   subst hy
   go_wp2
   go_ret
   exact ⟨rfl,rfl⟩
end Go.Proofs.YteimojoicfjdjaaGreat
namespace Go.Proofs.YteimojoicfjdjaaGreat
open Go.RowKit Pl
theorem pathToStop_any(s b:Int)(h0:0≤s)(h1:s≤2000)(hb:1≤b)(hb2:b≤2000)(w:World) :
  Calls Tryz.prog 165 #[.int .i64 s,.int .i64 b] w fun e w'=>e=.returned (.int .i64 (stopP s b))∧w'=w:=by
 have hz:(b == 0)=false:=by simp;omega
 obtain ⟨n,hn⟩:∃ n,s / b=n:=⟨_,rfl⟩
 obtain ⟨b1,b2,b3,b4,b5,b6,b7⟩:=stop_bds s b n h0 h1 hb hn
 have HE:Hid (stopP s b=n * s - b * (n * (n + 1) / 2)):=by unfold stopP;rw [hn];exact rfl
 go_enter Tryz.func165,Tryz.ntmps165
 go_wp2
 go_ret
 exact ⟨ret_int HE.out.symm,rfl⟩
theorem l1Stop_any(s b:Int)(h0:0≤s)(h1:s≤2000)(hb:1≤b)(hb2:b≤2000)(w:World) :
  Calls Tryz.prog 100 #[.int .i64 s,.int .i64 b] w fun e w'=>e=.returned (.int .i64 (stopP s b))∧w'=w:=by
 have hz:(b == 0)=false:=by simp;omega
 obtain ⟨n,hn⟩:∃ n,s / b=n:=⟨_,rfl⟩
 obtain ⟨b1,b2,b3,b4,b5,b6,b7⟩:=stop_bds s b n h0 h1 hb hn
 have HE:Hid (stopP s b=n * s - b * n * (n + 1) / 2):=by unfold stopP;rw [hn,specHalf];exact rfl
 go_enter Tryz.func100,Tryz.ntmps100
 go_wp2
 go_ret
 exact ⟨ret_int HE.out.symm,rfl⟩
end Go.Proofs.YteimojoicfjdjaaGreat
namespace Go.Proofs.YteimojoicfjdjaaGreat
open Value renaming int → I
open IntKind renaming i64 → Z
open Go.RowKit Pl
set_option linter.unusedSimpArgs false
set_option linter.unusedVariables false
def cells7(p:Pe):List Value:=[I Z p.id,I Z p.fr,I Z p.tw,I Z p.sh,I Z p.ca,I Z p.st,I Z p.pl]
def flat(l:List Pe):List Value:=l.flatMap cells7
theorem flat_cons(p:Pe)(l:List Pe):flat (p :: l)=cells7 p ++ flat l:=rfl
theorem flat_append(l m:List Pe):flat (l ++ m)=flat l ++ flat m:=by simp [flat]
theorem flat_length(l:List Pe):(flat l).length=l.length * 7:=by
 induction l with
 | nil=>rfl
 | cons p l ih=>rw [flat_cons,List.length_append,ih,List.length_cons];simp [cells7];omega
theorem flat_get{l:List Pe}{i:Nat}{p:Pe}(h:l[i]? = some p){k:Nat}(hk:k < 7):(flat l)[i * 7 + k]? = (cells7 p)[k]?:=by
 induction l generalizing i with
 | nil=>simp at h
 | cons q l ih=>
  rw [flat_cons]
  cases i with
  | zero=>
   simp at h
   subst h
   rw [List.getElem?_append_left (by simp [cells7];omega)]
   simp
  | succ i=>
   rw [List.getElem?_append_right (by simp [cells7];omega)]
   rw [show (i + 1) * 7 + k - (cells7 q).length=i * 7 + k by simp [cells7];omega]
   exact ih (by simpa using h)
theorem flat_one(l:List Pe):∀ u ∈ flat l,u.oneCell'=true:=by
 intro u hu
 obtain ⟨p,_,hp⟩:=List.mem_flatMap.1 hu
 simp [cells7] at hp
 rcases hp with rfl | rfl | rfl | rfl | rfl | rfl | rfl <;> rfl
theorem flat_set(l:List Pe)(i k:Nat)(p q:Pe)(u:Value)(h:l[i]? = some p)(hk:k < 7)(e:(cells7 p).set k u=cells7 q):(flat l).set (i * 7 + k) u=flat (l.set i q):=by
 induction l generalizing i with
 | nil=>simp at h
 | cons r l ih=>
  cases i with
  | zero=>
   simp at h
   subst h
   rw [List.set_cons_zero,flat_cons,flat_cons,List.set_append_left _ _ (by simp [cells7];omega)]
   simp [e]
  | succ i=>
   rw [List.set_cons_succ,flat_cons,flat_cons,List.set_append_right _ _ (by simp [cells7];omega)]
   rw [show (i + 1) * 7 + k - (cells7 r).length=i * 7 + k by simp [cells7];omega]
   rw [ih i (by simpa using h)]
def Own(w:World)(B:Nat)(v:Value)(l:List Pe):Prop:=w.ownsRow B 79 7 v l.length (flat l)
theorem Own.below{W w:World}{B C:Nat}{v:Value}{l:List Pe}(h:Own W B v l)(hb:Below C W w)(hC:∀ k,v.ownBlock=some k→k < C):Own w B v l:=by
 refine ⟨h.1,?_⟩
 rcases h.2 with hn | ⟨g,cap,cur,rfl,hB,hg,rest⟩
 ·exact Or.inl hn
 ·exact Or.inr ⟨g,cap,cur,rfl,hB,(hb.block g (hC g rfl)).trans hg,rest⟩
theorem Own.lt{w:World}{B:Nat}{v:Value}{l:List Pe}(h:Own w B v l):∀ k,v.ownBlock=some k→B≤k∧k < w.heap.size:=World.ownsRow.lt h
theorem Own.alloc{w:World}{B:Nat}{v:Value}{l:List Pe}(h:Own w B v l)(o:Obj):Own (w.alloc o) B v l:=World.ownsRow.alloc h o
theorem Own.drew{w:World}{B:Nat}{v:Value}{l:List Pe}(h:Own w B v l):Own w.drew B v l:=h
theorem Own.kept{w w':World}{B:Nat}{v:Value}{l:List Pe}{row:Option Nat}(h:Own w B v l)(hg:w.grownBy w' row)(hne:v.ownBlock=none ∨ v.ownBlock ≠ row):Own w' B v l:=World.ownsRow.kept h hg hne
theorem Own.cases{w:World}{B:Nat}{v:Value}{l:List Pe}(h:Own w B v l) :
  (v=.slice none 0 0∧l = []) ∨ ∃ g cap,v=.slice (some ⟨g,0,none⟩) l.length cap∧B≤g∧g < w.heap.size∧l.length≤cap∧cap≤maxLen:=by
 rcases h.2 with ⟨e,hn⟩ | ⟨g,cap,cur,e,hB,hg,hc,hm,_⟩
 ·exact Or.inl ⟨e,List.eq_nil_of_length_eq_zero hn⟩
 ·exact Or.inr ⟨g,cap,e,hB,(Array.getElem?_eq_some_iff.1 hg).1,hc,hm⟩
def Ow(w:World)(B g n cap:Nat)(l:List Pe):Prop:=l.length=n∧w.ownsRow B 79 7 (.slice (some ⟨g,0,none⟩) n cap) n (flat l)
theorem Ow.own{w:World}{B g n cap:Nat}{l:List Pe}(h:Ow w B g n cap l):Own w B (.slice (some ⟨g,0,none⟩) n cap) l:=by
 obtain ⟨rfl,h⟩:=h
 exact h
theorem Own.ow{w:World}{B g cap:Nat}{l:List Pe}(h:Own w B (.slice (some ⟨g,0,none⟩) l.length cap) l):Ow w B g l.length cap l:=⟨rfl,h⟩
theorem Ow.bl{w:World}{B g n cap:Nat}{l:List Pe}(h:Ow w B g n cap l):B≤g∧g < w.heap.size:=World.ownsRow.lt h.2 g rfl
theorem Ow.base{w:World}{B C g n cap:Nat}{l:List Pe}(h:Ow w B g n cap l)(hC:C≤B):Ow w C g n cap l:=by
 obtain ⟨e,h⟩:=h
 refine ⟨e,h.1,?_⟩
 rcases h.2 with hn | ⟨g',cap',cur,e',hB,rest⟩
 ·exact Or.inl hn
 ·exact Or.inr ⟨g',cap',cur,e',Nat.le_trans hC hB,rest⟩
theorem Ow.pin{w:World}{B g n cap C:Nat}{l:List Pe}(h:Ow w B g n cap l)(hC:g < C):PIn w C (some ⟨g,0,none⟩) l:=by
 refine Or.inr ⟨g,0,rfl,hC,fun i p hp=>?_⟩
 have hi:i < l.length:=(List.getElem?_eq_some_iff.1 hp).1
 have c:∀ k,k < 7→w.cell? ⟨g,i * 7 + k,none⟩=(cells7 p)[k]?:=fun k hk=>(World.ownsRow.cellAt h.2 (i * 7 + k) (by have:=h.1;omega)).trans (flat_get hp hk)
 rw [Nat.zero_add]
 exact ⟨c 0 (by omega),c 1 (by omega),c 2 (by omega),c 3 (by omega),c 4 (by omega),c 5 (by omega),c 6 (by omega)⟩
theorem PIn.mono{w:World}{B C:Nat}{a:Option Addr}{l:List Pe}(h:PIn w B a l)(hC:B≤C):PIn w C a l:=by
 rcases h with h | ⟨b,o,e,hl,h⟩
 ·exact Or.inl h
 ·exact Or.inr ⟨b,o,e,by omega,h⟩
structure LW(w:World)(b:Nat)(nx:Int)(v:Value):Prop where
 c0:w.cell? ⟨b,0,none⟩=some (I Z nx)
 c1:w.cell? ⟨b,1,none⟩=some v
 f0:w.frozen? ⟨b,0,none⟩=false
 f1:w.frozen? ⟨b,1,none⟩=false
theorem LW.lt{w:World}{b:Nat}{nx:Int}{v:Value}(h:LW w b nx v):b < w.heap.size:=World.block_lt_of_cell? w _ h.c0
theorem LW.at_(w:World)(nx:Int)(v:Value)(T:TypeId)(b:Nat)(hb:b=w.heap.size):LW (w.alloc (.cells #[I Z nx,v] T)) b nx v:=by
 subst hb
 constructor <;> simp
theorem LW.of{W w:World}{b:Nat}{nx:Int}{v:Value}(a:LW W b nx v)(hc:∀ o,w.cell? ⟨b,o,none⟩=W.cell? ⟨b,o,none⟩)(hf:∀ o,w.frozen? ⟨b,o,none⟩=W.frozen? ⟨b,o,none⟩):LW w b nx v:=
 ⟨(hc 0).trans a.c0,(hc 1).trans a.c1,(hf 0).trans a.f0,(hf 1).trans a.f1⟩
theorem LW.below{W w:World}{b B:Nat}{nx:Int}{v:Value}(a:LW W b nx v)(hb:Below B W w)(hB:b < B):LW w b nx v:=
 a.of (fun o=>hb.cell (p:=⟨b,o,none⟩) hB) (fun o=>hb.frozen (p:=⟨b,o,none⟩) hB)
theorem LW.alloc{W:World}{b:Nat}{nx:Int}{v:Value}(a:LW W b nx v)(o:Obj):LW (W.alloc o) b nx v:=a.below ((Below.refl _ _).alloc (Nat.le_refl _) o) a.lt
theorem LW.other{W:World}{b k o:Nat}{u:Value}{nx:Int}{v:Value}(a:LW W b nx v)(hne:b ≠ k):LW (W.setCell ⟨k,o,none⟩ u) b nx v:=
 a.of (fun _=>World.cell?_setCell_other _ _ _ _ (fun e=>hne (congrArg Addr.block e).symm)) (fun _=>World.frozen?_setCell _ _ _ _)
theorem LW.set0{W:World}{b:Nat}{nx:Int}{v:Value}(a:LW W b nx v)(y:Int):LW (W.setCell ⟨b,0,none⟩ (I Z y)) b y v:=
 ⟨World.cell?_setCell_same _ _ _ a.c0,(World.cell?_setCell_other _ _ _ _ (by simp)).trans a.c1,(World.frozen?_setCell _ _ _ _).trans a.f0,(World.frozen?_setCell _ _ _ _).trans a.f1⟩
theorem LW.set1{W:World}{b:Nat}{nx:Int}{v:Value}(a:LW W b nx v)(u:Value):LW (W.setCell ⟨b,1,none⟩ u) b nx u:=
 ⟨(World.cell?_setCell_other _ _ _ _ (by simp)).trans a.c0,World.cell?_setCell_same _ _ _ a.c1,(World.frozen?_setCell _ _ _ _).trans a.f0,(World.frozen?_setCell _ _ _ _).trans a.f1⟩
theorem LW.lat{w:World}{b:Nat}{nx:Int}{a:Option Addr}{len cap:Nat}(h:LW w b nx (.slice a len cap)):LAt w b nx a len cap:=⟨h.c0,h.c1⟩
theorem Ow.p7{w:World}{B g n cap:Nat}{l:List Pe}(h:Ow w B g n cap l){i:Nat}{p:Pe}(hp:l[i]? = some p):P7 w g (i * 7) p:=by
 have hi:i < l.length:=(List.getElem?_eq_some_iff.1 hp).1
 have c:∀ k,k < 7→w.cell? ⟨g,i * 7 + k,none⟩=(cells7 p)[k]?:=fun k hk=>(World.ownsRow.cellAt h.2 (i * 7 + k) (by have:=h.1;omega)).trans (flat_get hp hk)
 exact ⟨c 0 (by omega),c 1 (by omega),c 2 (by omega),c 3 (by omega),c 4 (by omega),c 5 (by omega),c 6 (by omega)⟩
theorem Ow.fz{w:World}{B g n cap:Nat}{l:List Pe}(h:Ow w B g n cap l)(k:Nat):w.frozen? ⟨g,k,none⟩=false:=World.ownsRow.frozenAt h.2 k
theorem Ow.kept{w w':World}{B g n cap:Nat}{l:List Pe}{row:Option Nat}(h:Ow w B g n cap l)(hg:w.grownBy w' row)(hne:some g ≠ row):Ow w' B g n cap l:=⟨h.1,World.ownsRow.kept h.2 hg (Or.inr hne)⟩
theorem Ow.below{W w:World}{B C g n cap:Nat}{l:List Pe}(h:Ow W B g n cap l)(hb:Below C W w)(hC:g < C):Ow w B g n cap l:=by
 obtain ⟨e,h⟩:=h
 refine ⟨e,h.1,?_⟩
 rcases h.2 with hn | ⟨g',cap',cur,e',hB,hg,rest⟩
 ·exact Or.inl hn
 ·refine Or.inr ⟨g',cap',cur,e',hB,(hb.block g' ?_).trans hg,rest⟩
  simp at e'
  omega
theorem Ow.alloc{w:World}{B g n cap:Nat}{l:List Pe}(h:Ow w B g n cap l)(o:Obj):Ow (w.alloc o) B g n cap l:=⟨h.1,World.ownsRow.alloc h.2 o⟩
theorem Ow.drew{w:World}{B g n cap:Nat}{l:List Pe}(h:Ow w B g n cap l):Ow w.drew B g n cap l:=h
theorem Ow.other{w:World}{B g n cap:Nat}{l:List Pe}(h:Ow w B g n cap l){p:Addr}(hne:g ≠ p.block)(u:Value):Ow (w.setCell p u) B g n cap l:=by
 refine h.kept (row:=some p.block) ⟨rfl,rfl,rfl,by simp [World.setCell],fun i _ hne=>?_⟩ (by simpa using hne)
 exact Below.heap_setCell _ _ _ _ (fun e=>hne (by rw [e]))
theorem Ow.set{w:World}{B g n cap:Nat}{l:List Pe}(h:Ow w B g n cap l){i k:Nat}{p q:Pe}{u:Value}(hp:l[i]? = some p)(hk:k < 7)(e:(cells7 p).set k u=cells7 q) :
  Ow (w.setCell ⟨g,i * 7 + k,none⟩ u) B g n cap (l.set i q):=by
 have a:=(World.ownsRow.stored h.2 (i * 7 + k) u).1
 rw [flat_set l i k p q u hp hk e] at a
 exact ⟨by rw [List.length_set];exact h.1,a⟩
theorem get_set{l:List Pe}{i:Nat}{p q:Pe}(h:l[i]? = some p):(l.set i q)[i]? = some q:=by
 have hi:i < l.length:=(List.getElem?_eq_some_iff.1 h).1
 rw [List.getElem?_set_self hi]
def putP(W:World)(g o:Nat)(p:Pe):World:=((((((W.setCell ⟨g,o,none⟩ (I Z p.id)).setCell ⟨g,o + 1,none⟩ (I Z p.fr)).setCell ⟨g,o + 2,none⟩ (I Z p.tw)).setCell ⟨g,o + 3,none⟩ (I Z p.sh)).setCell ⟨g,o + 4,none⟩ (I Z p.ca)).setCell ⟨g,o + 5,none⟩ (I Z p.st)).setCell ⟨g,o + 6,none⟩ (I Z p.pl)
theorem Ow.put{w:World}{B g n cap:Nat}{l:List Pe}(h:Ow w B g n cap l){i:Nat}{p:Pe}(q:Pe)(hp:l[i]? = some p):Ow (putP w g (i * 7) q) B g n cap (l.set i q):=by
 have s0:=h.set (k:=0) (u:=I Z q.id) (q:=⟨q.id,p.fr,p.tw,p.sh,p.ca,p.st,p.pl⟩) hp (by omega) rfl
 have s1:=s0.set (k:=1) (u:=I Z q.fr) (q:=⟨q.id,q.fr,p.tw,p.sh,p.ca,p.st,p.pl⟩) (get_set hp) (by omega) rfl
 have s2:=s1.set (k:=2) (u:=I Z q.tw) (q:=⟨q.id,q.fr,q.tw,p.sh,p.ca,p.st,p.pl⟩) (get_set (get_set hp)) (by omega) rfl
 have s3:=s2.set (k:=3) (u:=I Z q.sh) (q:=⟨q.id,q.fr,q.tw,q.sh,p.ca,p.st,p.pl⟩) (get_set (get_set (get_set hp))) (by omega) rfl
 have s4:=s3.set (k:=4) (u:=I Z q.ca) (q:=⟨q.id,q.fr,q.tw,q.sh,q.ca,p.st,p.pl⟩) (get_set (get_set (get_set (get_set hp)))) (by omega) rfl
 have s5:=s4.set (k:=5) (u:=I Z q.st) (q:=⟨q.id,q.fr,q.tw,q.sh,q.ca,q.st,p.pl⟩) (get_set (get_set (get_set (get_set (get_set hp))))) (by omega) rfl
 have s6:=s5.set (k:=6) (u:=I Z q.pl) (q:=q) (get_set (get_set (get_set (get_set (get_set (get_set hp)))))) (by omega) rfl
 simp only [List.set_set] at s6
 exact s6
theorem below_putP{B:Nat}{w W:World}(h:Below B w W){g:Nat}(hg:B≤g)(o:Nat)(p:Pe):Below B w (putP W g o p):=((((((h.setCell hg _).setCell hg _).setCell hg _).setCell hg _).setCell hg _).setCell hg _).setCell hg _
def zeroP:Pe:=⟨0,0,0,0,0,0,0⟩
theorem made_flat(n:Nat):(madeCells (cells7 zeroP).toArray (n * 7)).toList=flat (List.replicate n zeroP):=by
 apply List.ext_getElem?
 intro j
 by_cases hj:j < n * 7
 ·have e:j=j / 7 * 7 + j % 7:=by omega
  have h1:(List.replicate n zeroP)[j / 7]? = some zeroP:=by rw [List.getElem?_replicate,if_pos (by omega)]
  have h2:=flat_get h1 (k:=j % 7) (Nat.mod_lt _ (by omega))
  rw [← e] at h2
  rw [h2]
  have h3:j % 7 < 7:=Nat.mod_lt _ (by omega)
  simp [madeCells,hj,cells7]
  have:j % 7=0 ∨ j % 7=1 ∨ j % 7=2 ∨ j % 7=3 ∨ j % 7=4 ∨ j % 7=5 ∨ j % 7=6:=by omega
  rcases this with q | q | q | q | q | q | q <;> simp [q]
 ·have h1:(flat (List.replicate n zeroP)).length≤j:=by rw [flat_length,List.length_replicate];omega
  rw [List.getElem?_eq_none h1]
  simp [madeCells,hj]
end Go.Proofs.YteimojoicfjdjaaGreat
namespace Go.Proofs.YteimojoicfjdjaaGreat
open Go.RowKit Pl
set_option linter.unusedSimpArgs false
set_option linter.unusedVariables false
def Hs.callC(h:Hs)(f t:Int):Int:=if inB f 0 (h.fl - 1)=true∧inB t 0 (h.fl - 1)=true then (if f=t then 1 else 0) else 3
def Hs.call(h:Hs)(f t:Int):Int:=if h.fault=0 then Hs.callC h f t else h.fault
def badAt(p:Pe):Bool:=((p.pl != 0 && p.st != 2) && p.st != 3) || (p.st == 2 && p.pl != p.tw)
def inP(h:Hs)(p:Pe):Bool:=inB p.sh 0 2 && (inB p.ca 0 1 && (inB p.st 0 4 && inB p.pl 0 (h.fl - 1)))
def Hs.persC(h:Hs)(p:Pe):Int:=if Hs.callC h p.fr p.tw=0 then (if inP h p=true then (if badAt p=true then 1 else 0) else 3) else Hs.callC h p.fr p.tw
def Hs.pers(h:Hs)(nx last:Int)(p:Pe):Int:=if inB p.id 1 (nx - 1)=true then (if p.id≤last then 1 else Hs.persC h p) else 3
def Hs.first(h:Hs)(nx:Int):Int→List Pe→Int
 | _,[]=>0
 | last,p :: l=>if Hs.pers h nx last p=0 then Hs.first h nx p.id l else Hs.pers h nx last p
def Hs.over(h:Hs)(l:List Pe):Bool:=(List.range 6).any fun k=>decide (h.ld < cnt 1 ((k / 2:Nat):Int) ((k % 2:Nat):Int) l)
def Hs.ledC(h:Hs)(x:Lg):Int:=
 if inB x.nx 1 1000000000000000=true then
  (if 60 < x.ps.length then 2 else if Hs.first h x.nx 0 x.ps=0 then (if h.qu < cnt 0 (-1) 0 x.ps then 2 else if Hs.over h x.ps=true then 2 else 0) else Hs.first h x.nx 0 x.ps)
 else 3
def Hs.led(h:Hs)(x:Lg):Int:=if h.fault=0 then Hs.ledC h x else h.fault
def lastId(l:List Pe):Nat→Int
 | 0=>0
 | i + 1=>match l[i]? with | some q=>q.id | none=>0
theorem first_step{h:Hs}{nx last:Int}{l:List Pe}{i:Nat}{p:Pe}(hp:l[i]? = some p)(ok:∀ j q,j < i→l[j]? = some q→Hs.pers h nx (if j=0 then last else lastId l j) q=0):Hs.first h nx last l=(if Hs.pers h nx (if i=0 then last else lastId l i) p=0 then Hs.first h nx p.id (l.drop (i + 1)) else Hs.pers h nx (if i=0 then last else lastId l i) p):=by
 induction l generalizing i last with
 | nil=>simp at hp
 | cons q l ih=>
  cases i with
  | zero=>
   simp at hp
   subst hp
   simp [Hs.first]
  | succ i=>
   have h0:=ok 0 q (by omega) (by simp)
   rw [if_pos rfl] at h0
   show (if Hs.pers h nx last q=0 then Hs.first h nx q.id l else _)=_
   rw [if_pos h0]
   have e:∀ j,(if j=0 then q.id else lastId l j)=lastId (q :: l) (j + 1):=by
    intro j
    cases j with
    | zero=>simp [lastId]
    | succ j=>simp [lastId]
   have hp':l[i]? = some p:=by simpa using hp
   rw [ih (last:=q.id) hp' (fun j r hj hr=>by
    rw [e j]
    have:=ok (j + 1) r (by omega) (by simpa using hr)
    rw [if_neg (by omega)] at this
    exact this)]
   have z:(if i + 1=0 then last else lastId (q :: l) (i + 1))=lastId (q :: l) (i + 1):=if_neg (by omega)
   rw [e i,z]
   simp
theorem first_all{h:Hs}{nx last:Int}{l:List Pe}(ok:∀ j q,j < l.length→l[j]? = some q→Hs.pers h nx (if j=0 then last else lastId l j) q=0):Hs.first h nx last l=0:=by
 induction l generalizing last with
 | nil=>rfl
 | cons q l ih=>
  have h0:=ok 0 q (by simp) (by simp)
  rw [if_pos rfl] at h0
  show (if Hs.pers h nx last q=0 then Hs.first h nx q.id l else _)=_
  rw [if_pos h0]
  refine ih (fun j r hj hr=>?_)
  have:=ok (j + 1) r (by simpa using hj) (by simpa using hr)
  rw [if_neg (by omega)] at this
  have e:(if j=0 then q.id else lastId l j)=lastId (q :: l) (j + 1):=by
   cases j with
   | zero=>simp [lastId]
   | succ j=>simp [lastId]
  rw [e]
  exact this
end Go.Proofs.YteimojoicfjdjaaGreat
