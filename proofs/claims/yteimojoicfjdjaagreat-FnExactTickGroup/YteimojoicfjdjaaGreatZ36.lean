/- Parts of the proof: GrpR, CpS, TgG, XGw, XPw, XSt. -/
import Derived.Test.YteimojoicfjdjaaGreatZ18
import Derived.Test.YteimojoicfjdjaaGreatZ24
import Derived.Test.YteimojoicfjdjaaGreatZ25
import Derived.Test.YteimojoicfjdjaaGreatZ27
import Derived.Test.YteimojoicfjdjaaGreatZ47
import Derived.Test.YteimojoicfjdjaaGreatZ32
import Derived.Test.YteimojoicfjdjaaGreatZ33
import Derived.Test.YteimojoicfjdjaaGreatZ34
import Derived.Test.YteimojoicfjdjaaGreatZ35
import Derived.Laws.AppendOwnNone
import Derived.OwnWalk
namespace Go.Proofs.YteimojoicfjdjaaGreat
open Value renaming int → I
open IntKind renaming i64 → Z
open Go.RowKit Pl
set_option linter.unusedSimpArgs false
set_option linter.unusedVariables false
def rvs(kc id:Int)(h:Hs)(dv:Value)(nx:Int)(pv:Value)(tk:Int)(rc:Bool):List Value:=[I Z kc,I Z id,I Z h.fl,I Z h.gp,I Z h.ln,I Z h.rf,I Z h.sp,I Z h.pu,I Z h.br,I Z h.dr,I Z h.lv,I Z h.dO,I Z h.ld,I Z h.qu,dv,I Z nx,pv,I Z tk,.bool rc]
def isGrp(w:World)(kc id:Int)(h:Hs)(ds:List Dk)(nx:Int)(ps:List Pe)(tk:Int)(rc:Bool)(e:Ending)(w':World):Prop:=
 ∃ da dc pa pc,e=.returned (.agg #[I Z kc,I Z id,I Z h.fl,I Z h.gp,I Z h.ln,I Z h.rf,I Z h.sp,I Z h.pu,I Z h.br,I Z h.dr,I Z h.lv,I Z h.dO,I Z h.ld,I Z h.qu,.slice da ds.length dc,I Z nx,.slice pa ps.length pc,I Z tk,.bool rc])∧OwnD w' w.heap.size (.slice da ds.length dc) ds∧Own w' w.heap.size (.slice pa ps.length pc) ps∧(∀ j,(Value.slice da ds.length dc).ownBlock=some j→(Value.slice pa ps.length pc).ownBlock ≠ some j)∧Below w.heap.size w w'
theorem own_nilP(w:World)(B:Nat):Own w B (.slice none 0 0) []:=World.ownsRow_nil w B _ 7
theorem own_nilD(w:World)(B:Nat):OwnD w B (.slice none 0 0) []:=World.ownsRow_nil w B _ 13
theorem isGrp.no{w w':World}{k:Int}(hb:Below w.heap.size w w'):isGrp w k 0 zeroH [] 0 [] 0 false (.returned (.agg #[I Z k,I Z 0,I Z 0,I Z 0,I Z 0,I Z 0,I Z 0,I Z 0,I Z 0,I Z 0,I Z 0,I Z 0,I Z 0,I Z 0,.slice none 0 0,I Z 0,.slice none 0 0,I Z 0,.bool false])) w':=
 ⟨none,0,none,0,rfl,own_nilD _ _,own_nilP _ _,(fun _ e=>by cases e),hb⟩
theorem below_grown{B:Nat}{a w w':World}{row:Option Nat}(h:Below B a w)(k:w.grownBy w' row)(hr:∀ j,row=some j→B≤j)(hB:B≤w.heap.size):Below B a w':=
 ⟨k.os.trans h.os,k.tape.trans h.tape,k.output.trans h.output,Nat.le_trans h.size k.size,fun i hi=>(k.block i (by omega) (fun e=>absurd (hr i e.symm) (by omega))).trans (h.block i hi)⟩
theorem news_atD{w:World}{b o:Nat}{l:List Dk}(h:∀ i p,l[i]? = some p→D13 w b (o + i * 13) p):∀ j u,(flatD l)[j]? = some u→w.cell? ((⟨b,o,none⟩:Addr).add j)=some u:=by
 intro j u hu
 have hj:j < l.length * 13:=by
  rw [← flatD_length]
  exact (List.getElem?_eq_some_iff.1 hu).1
 have e:j=j / 13 * 13 + j % 13:=by omega
 have h3:j % 13 < 13:=Nat.mod_lt _ (by omega)
 obtain ⟨p,hp⟩:∃ p,l[j / 13]? = some p:=⟨_,List.getElem?_eq_getElem (by omega)⟩
 have h2:=flatD_get hp h3
 rw [← e,hu] at h2
 obtain ⟨c0,c1,c2,c3,c4,c5,c6,c7,c8,c9,c10,c11,c12⟩:=h (j / 13) p hp
 have ea:(⟨b,o,none⟩:Addr).add j=⟨b,o + j,none⟩:=by simp [Addr.add]
 rw [ea]
 have ej:o + j=o + j / 13 * 13 + j % 13:=by omega
 rw [ej,h2]
 have:j % 13=0 ∨ j % 13=1 ∨ j % 13=2 ∨ j % 13=3 ∨ j % 13=4 ∨ j % 13=5 ∨ j % 13=6 ∨ j % 13=7 ∨ j % 13=8 ∨ j % 13=9 ∨ j % 13=10 ∨ j % 13=11 ∨ j % 13=12:=by omega
 rcases this with q | q | q | q | q | q | q | q | q | q | q | q | q <;> rw [q]
 ·exact c0
 ·exact c1
 ·exact c2
 ·exact c3
 ·exact c4
 ·exact c5
 ·exact c6
 ·exact c7
 ·exact c8
 ·exact c9
 ·exact c10
 ·exact c11
 ·exact c12
theorem wp_append_dk{w:World}{a:Act}{K:Act→World→Prop}{Q:Exit→Act→World→Prop}{s x:Operand}{dst:Option Tmp}{ty:TypeId}{ps:String}{af:Array Edge}
  (B:Nat) (v:Value) (l m L:List Dk) (N:Nat) (hL:l ++ m=L) (hN:L.length=N) (hs:a.eval s=v) (hown:OwnD w B v l) (b o c:Nat) (hx:a.eval x=.slice (some ⟨b,o,none⟩) m.length c)
  (hm:∀ i p,m[i]? = some p→D13 w b (o + i * 13) p) (hn:v ≠ .slice none 0 0 ∨ 0 < m.length) (hlen:l.length + m.length≤2097152) (hB:B≤w.heap.size)
  (h:∀ g' c' w',OwnD w' B (.slice (some ⟨g',0,none⟩) N c') L→w.grownBy w' v.ownBlock→K (a.put dst (.slice (some ⟨g',0,none⟩) N c')) w') :
  Oper.wp Tryz.prog { dst:=dst,op:=.call { callee:=.builtin .append,args:=#[s,x],argTypes:=#[32,32] },type:=ty,pos:=ps,after:=af,guard:=none } a w K Q:=by
 subst hL hN
 obtain ⟨i,hi,hz,hsz,hby⟩:=info_parts infoDK
 refine wp_append_own (P:=Tryz.prog) w s x 32 rfl B 73 i (.agg (cellsD zeroD).toArray) 13 104 undDS hi hz hsz hby rfl (by omega) _ l.length (flatD l) hs hown ⟨b,o,none⟩ m.length c (flatD m) hx (flatD_length m) (news_atD hm) (flatD_one m) (by unfold maxLen;omega) (by omega) hB ?_
 intro v' w' ho hg hk
 have ho':OwnD w' B v' (l ++ m):=by
  unfold OwnD
  rw [List.length_append,flatD_append]
  exact ho
 rcases ho'.cases with ⟨e,_⟩ | ⟨g',c',e,_⟩
 ·obtain ⟨q1,q2⟩:=hk.1 e
  rcases hn with q | q
  ·exact absurd q1 q
  ·omega
 ·subst e
  exact h g' c' w' ho' hg
end Go.Proofs.YteimojoicfjdjaaGreat
namespace Go.Proofs.YteimojoicfjdjaaGreat
set_option maxRecDepth 20000
set_option maxHeartbeats 16000000
open Value renaming int → I
open IntKind renaming i64 → Z
open Go.RowKit Pl
set_option linter.unusedSimpArgs false
set_option linter.unusedVariables false
structure GI(w:World)(gd gp:Nat)(ds:List Dk)(ps:List Pe):Prop where
 d:∀ i p,ds[i]? = some p→D13 w gd (0 + i * 13) p
 p:∀ i p,ps[i]? = some p→P7 w gp (0 + i * 7) p
 ld:gd < w.heap.size
 lp:gp < w.heap.size
theorem GI.below{W w:World}{B gd gp:Nat}{ds:List Dk}{ps:List Pe}(a:GI W gd gp ds ps)(hb:Below B W w)(h1:gd < B:=by omega)(h2:gp < B:=by omega):GI w gd gp ds ps:=
 ⟨fun i p hp=>(a.d i p hp).below hb h1,fun i p hp=>(a.p i p hp).below hb h2,Nat.lt_of_lt_of_le a.ld hb.size,Nat.lt_of_lt_of_le a.lp hb.size⟩
theorem GI.alloc{W:World}{gd gp:Nat}{ds:List Dk}{ps:List Pe}(a:GI W gd gp ds ps)(o:Obj):GI (W.alloc o) gd gp ds ps:=a.below ((Below.refl _ _).alloc (Nat.le_refl _) o) a.ld a.lp
theorem GI.din{w:World}{gd gp:Nat}{ds:List Dk}{ps:List Pe}(a:GI w gd gp ds ps):DIn w w.heap.size (some ⟨gd,0,none⟩) ds:=Or.inr ⟨gd,0,rfl,a.ld,a.d⟩
theorem GI.pin{w:World}{gd gp:Nat}{ds:List Dk}{ps:List Pe}(a:GI w gd gp ds ps):PIn w w.heap.size (some ⟨gp,0,none⟩) ps:=Or.inr ⟨gp,0,rfl,a.lp,a.p⟩
theorem GI.of{w:World}{B C gd gp n c m k:Nat}{ds:List Dk}{ps:List Pe}(hd:OwD w B gd n c ds)(hp:Ow w C gp m k ps):GI w gd gp ds ps:=
 ⟨fun i p h=>by rw [Nat.zero_add];exact hd.d13 h,fun i p h=>by rw [Nat.zero_add];exact hp.p7 h,hd.bl.2,hp.bl.2⟩
theorem GO.gi{w:World}{B gd gp:Nat}{ds:List Dk}{ps:List Pe}(a:GO w B gd gp ds ps):GI w gd gp ds ps:=GI.of a.d a.p
def isCp(w:World)(h:Hs)(ds:List Dk)(nx:Int)(ps:List Pe)(tk:Int)(rc:Bool)(e:Ending)(w':World):Prop:=
 ∃ g1 c1 g2 c2,e=.returned (.agg #[I Z h.fl,I Z h.gp,I Z h.ln,I Z h.rf,I Z h.sp,I Z h.pu,I Z h.br,I Z h.dr,I Z h.lv,I Z h.dO,I Z h.ld,I Z h.qu,.slice (some ⟨g1,0,none⟩) ds.length c1,I Z nx,.slice (some ⟨g2,0,none⟩) ps.length c2,I Z tk,.bool rc])∧OwD w' w.heap.size g1 ds.length c1 ds∧Ow w' w.heap.size g2 ps.length c2 ps∧g1 ≠ g2∧Below w.heap.size w w'
theorem own_emptyD(w:World)(B:Nat)(hB:B≤w.heap.size):OwnD (w.alloc (.cells #[] 73)) B (.slice (some ⟨w.heap.size,0,none⟩) 0 0) []:=
 World.ownsRow_made (base:=B) (e:=73) (size:=13) w #[] 0 hB (by unfold maxLen;omega) rfl
theorem wpList_append_dk{w:World}{a:Act}{ops:Array Oper}{rest:List Oper}{Q:Exit→Act→World→Prop}{s x:Operand}{dst:Option Tmp}{ty:TypeId}{ps:String}{af:Array Edge}
  (B:Nat) (v:Value) (l m L:List Dk) (N:Nat) (hL:l ++ m=L) (hN:L.length=N) (hs:a.eval s=v) (hown:OwnD w B v l) (b o c:Nat) (hx:a.eval x=.slice (some ⟨b,o,none⟩) m.length c)
  (hm:∀ i p,m[i]? = some p→D13 w b (o + i * 13) p) (hn:v ≠ .slice none 0 0 ∨ 0 < m.length) (hlen:l.length + m.length≤2097152) (hB:B≤w.heap.size)
  (h:∀ g' c' w',OwnD w' B (.slice (some ⟨g',0,none⟩) N c') L→w.grownBy w' v.ownBlock→wpList Tryz.prog ops Q rest (a.put dst (.slice (some ⟨g',0,none⟩) N c')) w') :
  wpList Tryz.prog ops Q ({ dst:=dst,op:=.call { callee:=.builtin .append,args:=#[s,x],argTypes:=#[32,32] },type:=ty,pos:=ps,after:=af,guard:=none } :: rest) a w:=
 wpList_plain rfl fun K hK=>wp_append_dk B v l m L N hL hN hs hown b o c hx hm hn hlen hB (fun g' c' w' h1 h2=>hK _ _ (h g' c' w' h1 h2))
theorem l8Copy_any(h:Hs)(ds:List Dk)(gd dc:Nat)(nx:Int)(ps:List Pe)(gp pc:Nat)(tk:Int)(rc:Bool)(hld:ds.length≤1048576)(hlp:ps.length≤1048576)(w:World)(hI:GI w gd gp ds ps):Calls Tryz.prog 17 #[.agg #[I Z h.fl,I Z h.gp,I Z h.ln,I Z h.rf,I Z h.sp,I Z h.pu,I Z h.br,I Z h.dr,I Z h.lv,I Z h.dO,I Z h.ld,I Z h.qu,.slice (some ⟨gd,0,none⟩) ds.length dc,I Z nx,.slice (some ⟨gp,0,none⟩) ps.length pc,I Z tk,.bool rc]] w (isCp w h ds nx ps tk rc):=by
 have FI0:=zH hI
 have F0:Hid (Blk ((w.alloc (.cells #[I Z h.fl,I Z h.gp,I Z h.ln,I Z h.rf,I Z h.sp,I Z h.pu,I Z h.br,I Z h.dr,I Z h.lv,I Z h.dO,I Z h.ld,I Z h.qu,.slice (some ⟨gd,0,none⟩) ds.length dc,I Z nx,.slice (some ⟨gp,0,none⟩) ps.length pc,I Z tk,.bool rc] 37)).alloc (.cells #[I Z 0,I Z 0,I Z 0,I Z 0,I Z 0,I Z 0,I Z 0,I Z 0,I Z 0,I Z 0,I Z 0,I Z 0,.slice none 0 0,I Z 0,.slice none 0 0,I Z 0,.bool false] 37)) w.heap.size (gvs h (.slice (some ⟨gd,0,none⟩) ds.length dc) nx (.slice (some ⟨gp,0,none⟩) ps.length pc) tk rc)):=(Blk.at_ w #[I Z h.fl,I Z h.gp,I Z h.ln,I Z h.rf,I Z h.sp,I Z h.pu,I Z h.br,I Z h.dr,I Z h.lv,I Z h.dO,I Z h.ld,I Z h.qu,.slice (some ⟨gd,0,none⟩) ds.length dc,I Z nx,.slice (some ⟨gp,0,none⟩) ps.length pc,I Z tk,.bool rc] _ _ rfl).alloc _
 have F1:Hid (Blk ((w.alloc (.cells #[I Z h.fl,I Z h.gp,I Z h.ln,I Z h.rf,I Z h.sp,I Z h.pu,I Z h.br,I Z h.dr,I Z h.lv,I Z h.dO,I Z h.ld,I Z h.qu,.slice (some ⟨gd,0,none⟩) ds.length dc,I Z nx,.slice (some ⟨gp,0,none⟩) ps.length pc,I Z tk,.bool rc] 37)).alloc (.cells #[I Z 0,I Z 0,I Z 0,I Z 0,I Z 0,I Z 0,I Z 0,I Z 0,I Z 0,I Z 0,I Z 0,I Z 0,.slice none 0 0,I Z 0,.slice none 0 0,I Z 0,.bool false] 37)) (w.heap.size + 1) (gvs zeroH (.slice none 0 0) 0 (.slice none 0 0) 0 false)):=Blk.at_ _ #[I Z 0,I Z 0,I Z 0,I Z 0,I Z 0,I Z 0,I Z 0,I Z 0,I Z 0,I Z 0,I Z 0,I Z 0,.slice none 0 0,I Z 0,.slice none 0 0,I Z 0,.bool false] _ _ (by simp)
 have FB:Hid (Below w.heap.size w ((w.alloc (.cells #[I Z h.fl,I Z h.gp,I Z h.ln,I Z h.rf,I Z h.sp,I Z h.pu,I Z h.br,I Z h.dr,I Z h.lv,I Z h.dO,I Z h.ld,I Z h.qu,.slice (some ⟨gd,0,none⟩) ds.length dc,I Z nx,.slice (some ⟨gp,0,none⟩) ps.length pc,I Z tk,.bool rc] 37)).alloc (.cells #[I Z 0,I Z 0,I Z 0,I Z 0,I Z 0,I Z 0,I Z 0,I Z 0,I Z 0,I Z 0,I Z 0,I Z 0,.slice none 0 0,I Z 0,.slice none 0 0,I Z 0,.bool false] 37))):=((Below.refl _ _).alloc (Nat.le_refl _) _).alloc (by simp) _
 have FI:Hid (GI ((w.alloc (.cells #[I Z h.fl,I Z h.gp,I Z h.ln,I Z h.rf,I Z h.sp,I Z h.pu,I Z h.br,I Z h.dr,I Z h.lv,I Z h.dO,I Z h.ld,I Z h.qu,.slice (some ⟨gd,0,none⟩) ds.length dc,I Z nx,.slice (some ⟨gp,0,none⟩) ps.length pc,I Z tk,.bool rc] 37)).alloc (.cells #[I Z 0,I Z 0,I Z 0,I Z 0,I Z 0,I Z 0,I Z 0,I Z 0,I Z 0,I Z 0,I Z 0,I Z 0,.slice none 0 0,I Z 0,.slice none 0 0,I Z 0,.bool false] 37)) gd gp ds ps):=(hI.alloc _).alloc _
 have LI:Hid (gd < w.heap.size∧gp < w.heap.size):=⟨hI.ld,hI.lp⟩
 obtain ⟨W0,hW0⟩:∃ W0,W0=((w.alloc (.cells #[I Z h.fl,I Z h.gp,I Z h.ln,I Z h.rf,I Z h.sp,I Z h.pu,I Z h.br,I Z h.dr,I Z h.lv,I Z h.dO,I Z h.ld,I Z h.qu,.slice (some ⟨gd,0,none⟩) ds.length dc,I Z nx,.slice (some ⟨gp,0,none⟩) ps.length pc,I Z tk,.bool rc] 37)).alloc (.cells #[I Z 0,I Z 0,I Z 0,I Z 0,I Z 0,I Z 0,I Z 0,I Z 0,I Z 0,I Z 0,I Z 0,I Z 0,.slice none 0 0,I Z 0,.slice none 0 0,I Z 0,.bool false] 37)):=⟨_,rfl⟩
 rw [← hW0] at F0 F1 FB FI
 have HW0:=zH hW0
 clear hW0 hI
 have FE:Hid (OwnD (W0.alloc (.cells #[] 73)) W0.heap.size (.slice (some ⟨W0.heap.size,0,none⟩) 0 0) []):=own_emptyD W0 _ (Nat.le_refl _)
 have l0:=F0.out.lt
 have l1:=F1.out.lt
 obtain ⟨WE,hWE⟩:∃ WE,WE=W0.alloc (.cells #[] 73):=⟨_,rfl⟩
 obtain ⟨ge,hge⟩:∃ ge,ge=W0.heap.size:=⟨_,rfl⟩
 rw [← hWE,← hge] at FE
 rw [← hge] at l0 l1
 have F0:Hid (Blk WE w.heap.size (gvs h (.slice (some ⟨gd,0,none⟩) ds.length dc) nx (.slice (some ⟨gp,0,none⟩) ps.length pc) tk rc)):=by rw [hWE];exact F0.out.alloc _
 have F1:Hid (Blk WE (w.heap.size + 1) (gvs zeroH (.slice none 0 0) 0 (.slice none 0 0) 0 false)):=by rw [hWE];exact F1.out.alloc _
 have FB:Hid (Below w.heap.size w WE):=by rw [hWE];exact FB.out.alloc FB.out.size _
 have FI:Hid (GI WE gd gp ds ps):=by rw [hWE];exact FI.out.alloc _
 have HWE:Hid (W0.alloc (.cells #[] 73)=WE∧W0.heap.size=ge):=⟨hWE.symm,hge.symm⟩
 have sE:ge < WE.heap.size:=(FE.out.lt ge rfl).2
 clear hWE hge
 go_enter Tryz.func17,Tryz.ntmps17
 go_upto_region 1 with fail
 rw [← HW0.out]
 clear HW0
 have y12:=F0.out.c 12 _ rfl
 have z12:(W0.alloc (.cells #[] 73)).cell? ⟨w.heap.size,12,none⟩=_:=(congrArg (fun W=>World.cell? W ⟨w.heap.size,12,none⟩) HWE.out.1).trans y12
 go_upto_region 2 with (first | (at_builtin;refine wpList_append_dk ge (.slice (some ⟨ge,0,none⟩) 0 0) [] ds ds ds.length (List.nil_append _) rfl (by rw [← HWE.out.2];rfl) (by rw [HWE.out.1];exact FE.out) gd 0 dc rfl (by rw [HWE.out.1];exact FI.out.d) (Or.inl (fun e=>by cases e)) (by simp;omega) (by rw [HWE.out.1];omega) ?_;rw [HWE.out.1];intro g1 c1 w1 ho hg;have NEr:Hid (∀ b,b < ge→some b ≠ (Value.slice (some ⟨ge,0,none⟩) 0 0).ownBlock):=(fun b hb e=>by have e2:b=ge:=Option.some.inj e;omega);have F0:Hid (Blk w1 w.heap.size (gvs h (.slice (some ⟨gd,0,none⟩) ds.length dc) nx (.slice (some ⟨gp,0,none⟩) ps.length pc) tk rc)):=F0.out.grown hg (NEr.out _ (by omega));have F1:Hid (Blk w1 (w.heap.size + 1) (gvs zeroH (.slice none 0 0) 0 (.slice none 0 0) 0 false)):=F1.out.grown hg (NEr.out _ (by omega));have FB:Hid (Below w.heap.size w w1):=below_grown FB.out hg (fun j hj=>by have e2:ge=j:=Option.some.inj hj;omega) FB.out.size;have FD:Hid (OwD w1 (w.heap.size + 2) g1 ds.length c1 ds):=((OwnD.ow ho).base (by omega));have k12:=F0.out.c 12 _ rfl;have f12:=F0.out.f 12 (Nat.le_of_ble_eq_true rfl);clear ho hg NEr))
 obtain ⟨W2,hw_⟩:∃ W,W=w1.setCell ⟨w.heap.size,12,none⟩ (.slice (some ⟨g1,0,none⟩) ds.length c1):=⟨_,rfl⟩
 rw [← hw_]
 have F0:Hid (Blk W2 w.heap.size (gvs h (.slice (some ⟨g1,0,none⟩) ds.length c1) nx (.slice (some ⟨gp,0,none⟩) ps.length pc) tk rc)):=by rw [hw_];exact F0.out.set _ (Nat.le_of_ble_eq_true rfl)
 have F1:Hid (Blk W2 (w.heap.size + 1) (gvs zeroH (.slice none 0 0) 0 (.slice none 0 0) 0 false)):=by rw [hw_];exact F1.out.other (by omega)
 have FD:Hid (OwD W2 (w.heap.size + 2) g1 ds.length c1 ds):=by rw [hw_];exact FD.out.other (p:=⟨w.heap.size,12,none⟩) (by have:=FD.out.bl.1;show _ ≠ w.heap.size;omega) _
 have FB:Hid (Below w.heap.size w W2):=by rw [hw_];exact FB.out.setCell (by show w.heap.size≤w.heap.size;omega) _
 have FI:Hid (GI W2 gd gp ds ps):=FI0.out.below FB.out LI.out.1 LI.out.2
 clear hw_
 clear k12 f12 y12 z12 FE HWE l0 l1 sE
 have x13:=F0.out.c 13 _ rfl
 have x14:=F0.out.c 14 _ rfl
 have ld:=FD.out.bl.2
 go_upto_region 3 with (go_at_call 38;refine (l7Copy_any nx gp 0 pc ps hlp _ FI.out.p).mono ?_;rintro e w3 ⟨g2,c2,rfl,ho,hb⟩;have FP:Hid (Ow w3 (w.heap.size + 2) g2 ps.length c2 ps):=ho.base (by have:=F1.out.lt;omega);have l12:g1 < g2:=Nat.lt_of_lt_of_le ld ho.bl.1;have F0:=bB F0 hb;have F1:=bB F1 hb;have FD:Hid (OwD w3 (w.heap.size + 2) g1 ds.length c1 ds):=FD.out.below hb FD.out.bl.2;have FB:=tB FB hb;clear hb;clear ho;have k13:=F0.out.c 13 _ rfl;have k14:=F0.out.c 14 _ rfl;have f13:=F0.out.f 13 (Nat.le_of_ble_eq_true rfl);have f14:=F0.out.f 14 (Nat.le_of_ble_eq_true rfl))
 obtain ⟨W4,hw_⟩:∃ W4,W4=(w3.setCell ⟨w.heap.size,13,none⟩ (I Z nx)).setCell ⟨w.heap.size,14,none⟩ (.slice (some ⟨g2,0,none⟩) ps.length c2):=⟨_,rfl⟩
 rw [← hw_]
 have F0:Hid (Blk W4 w.heap.size (gvs h (.slice (some ⟨g1,0,none⟩) ds.length c1) nx (.slice (some ⟨g2,0,none⟩) ps.length c2) tk rc)):=by rw [hw_];exact putB_set [I Z nx,.slice (some ⟨g2,0,none⟩) ps.length c2] _ 13 w3 F0.out (Nat.le_of_ble_eq_true rfl)
 have F1:Hid (Blk W4 (w.heap.size + 1) (gvs zeroH (.slice none 0 0) 0 (.slice none 0 0) 0 false)):=by rw [hw_];exact Blk.putB_other (by omega) [I Z nx,.slice (some ⟨g2,0,none⟩) ps.length c2] 13 F1.out
 have FD:Hid (OwD W4 (w.heap.size + 2) g1 ds.length c1 ds):=by rw [hw_];exact OwD.putB (by have:=FD.out.bl.1;omega) [I Z nx,.slice (some ⟨g2,0,none⟩) ps.length c2] 13 _ FD.out
 have FP:Hid (Ow W4 (w.heap.size + 2) g2 ps.length c2 ps):=by rw [hw_];exact Ow.putB (by have:=FP.out.bl.1;omega) [I Z nx,.slice (some ⟨g2,0,none⟩) ps.length c2] 13 _ FP.out
 have FB:Hid (Below w.heap.size w W4):=by rw [hw_];exact below_putB FB.out (by omega) [I Z nx,.slice (some ⟨g2,0,none⟩) ps.length c2] 13
 clear hw_
 clear k13 k14 f13 f14 x13 x14
 go_wp2_with (first | (refine load_blk 37 _ Tryz.underlying37 (by kernel_rfl) F0.out rfl rfl rfl ?_) | (refine store_blk (gvs h (.slice (some ⟨g1,0,none⟩) ds.length c1) nx (.slice (some ⟨g2,0,none⟩) ps.length c2) tk rc) 37 _ _ (by kernel_rfl) (by kernel_rfl) (by kernel_rfl) F1.out rfl rfl rfl rfl ?_))
 exact bodyPost_ret (v:=.agg #[I Z h.fl,I Z h.gp,I Z h.ln,I Z h.rf,I Z h.sp,I Z h.pu,I Z h.br,I Z h.dr,I Z h.lv,I Z h.dO,I Z h.ld,I Z h.qu,.slice (some ⟨g1,0,none⟩) ds.length c1,I Z nx,.slice (some ⟨g2,0,none⟩) ps.length c2,I Z tk,.bool rc]) ((F1.out.row (gvs h (.slice (some ⟨g1,0,none⟩) ds.length c1) nx (.slice (some ⟨g2,0,none⟩) ps.length c2) tk rc)).res _ Tryz.results17 Tryz.underlying37 (by kernel_rfl) rfl) rfl ⟨g1,c1,g2,c2,rfl,(FD.out.row (by have:=FD.out.bl.1;omega) _).base (by omega),(FP.out.row (by have:=FP.out.bl.1;omega) _).base (by omega),by omega,below_row FB.out (by omega) _⟩
end Go.Proofs.YteimojoicfjdjaaGreat
namespace Go.Proofs.YteimojoicfjdjaaGreat
open Go.RowKit Pl
set_option linter.unusedSimpArgs false
set_option linter.unusedVariables false
structure Gs(W w:World)(B gb g1 c1 g2 c2:Nat)(h:Hs)(ds:List Dk)(nx:Int)(ps:List Pe)(tk:Int)(rc:Bool):Prop where
 f:Blk W gb (gvs h (.slice (some ⟨g1,0,none⟩) ds.length c1) nx (.slice (some ⟨g2,0,none⟩) ps.length c2) tk rc)
 d:OwD W B g1 ds.length c1 ds
 p:Ow W B g2 ps.length c2 ps
 n1:gb ≠ g1
 n2:gb ≠ g2
 n12:g1 ≠ g2
 lo:B≤gb
 fb:Below B w W
theorem Gs.below{W W' w:World}{B gb g1 c1 g2 c2:Nat}{h:Hs}{ds:List Dk}{nx:Int}{ps:List Pe}{tk:Int}{rc:Bool}(G:Gs W w B gb g1 c1 g2 c2 h ds nx ps tk rc)(hb:Below W.heap.size W W'):Gs W' w B gb g1 c1 g2 c2 h ds nx ps tk rc:=
 ⟨G.f.below hb G.f.lt,G.d.below hb G.d.bl.2,G.p.below hb G.p.bl.2,G.n1,G.n2,G.n12,G.lo,G.fb.trans (hb.mono (Nat.le_of_lt (Nat.lt_of_le_of_lt G.lo G.f.lt)))⟩
theorem Gs.alloc{W w:World}{B gb g1 c1 g2 c2:Nat}{h:Hs}{ds:List Dk}{nx:Int}{ps:List Pe}{tk:Int}{rc:Bool}(G:Gs W w B gb g1 c1 g2 c2 h ds nx ps tk rc)(o:Obj):Gs (W.alloc o) w B gb g1 c1 g2 c2 h ds nx ps tk rc:=G.below ((Below.refl _ _).alloc (Nat.le_refl _) o)
theorem Gs.deck{W w:World}{B gb g1 c1 g2 c2:Nat}{h:Hs}{ds:List Dk}{nx:Int}{ps:List Pe}{tk:Int}{rc:Bool}(G:Gs W w B gb g1 c1 g2 c2 h ds nx ps tk rc){i k:Nat}{a b:Dk}{u:Value}(hp:ds[i]? = some a)(hk:k < 13)(e:(cellsD a).set k u=cellsD b) :
  Gs (W.setCell ⟨g1,i * 13 + k,none⟩ u) w B gb g1 c1 g2 c2 h (ds.set i b) nx ps tk rc:=by
 have q:=G.d.set hp hk e
 have hl:(ds.set i b).length=ds.length:=List.length_set
 have lo:=G.d.bl.1
 refine ⟨?_,by rw [hl];exact q,G.p.other (p:=⟨g1,i * 13 + k,none⟩) (fun e=>G.n12 e.symm) u,G.n1,G.n2,G.n12,G.lo,G.fb.setCell (p:=⟨g1,i * 13 + k,none⟩) lo u⟩
 rw [hl]
 exact G.f.other G.n1
theorem Gs.people{W W' w:World}{B gb g1 c1 g2 c2:Nat}{h:Hs}{ds:List Dk}{nx:Int}{ps qs:List Pe}{tk:Int}{rc:Bool}(G:Gs W w B gb g1 c1 g2 c2 h ds nx ps tk rc)(ho:Ow W' B g2 ps.length c2 qs)(hg:W.grownBy W' (some g2)):Gs W' w B gb g1 c1 g2 c2 h ds nx qs tk rc:=by
 have hl:qs.length=ps.length:=ho.1
 have lo:=G.p.bl.1
 refine ⟨by rw [hl];exact G.f.grown hg (fun e=>G.n2 (Option.some.inj e)),G.d.kept hg (fun e=>G.n12 (Option.some.inj e)),by rw [hl];exact ho,G.n1,G.n2,G.n12,G.lo,G.fb.grown hg (Nat.le_of_lt (Nat.lt_of_le_of_lt G.lo G.f.lt)) (fun j hj=>by have e:=Option.some.inj hj;omega)⟩
theorem Gs.din{W w:World}{B gb g1 c1 g2 c2:Nat}{h:Hs}{ds:List Dk}{nx:Int}{ps:List Pe}{tk:Int}{rc:Bool}(G:Gs W w B gb g1 c1 g2 c2 h ds nx ps tk rc):DIn W W.heap.size (some ⟨g1,0,none⟩) ds:=G.d.pin G.d.bl.2
theorem Gs.pin{W w:World}{B gb g1 c1 g2 c2:Nat}{h:Hs}{ds:List Dk}{nx:Int}{ps:List Pe}{tk:Int}{rc:Bool}(G:Gs W w B gb g1 c1 g2 c2 h ds nx ps tk rc):PIn W W.heap.size (some ⟨g2,0,none⟩) ps:=G.p.pin G.p.bl.2
theorem Gs.led{W w:World}{B gb g1 c1 g2 c2:Nat}{h:Hs}{ds:List Dk}{nx:Int}{ps:List Pe}{tk:Int}{rc:Bool}(G:Gs W w B gb g1 c1 g2 c2 h ds nx ps tk rc):LAo W gb 13 nx (some ⟨g2,0,none⟩) ps.length c2:=⟨G.f.c 13 _ rfl,G.f.c 14 _ rfl⟩
end Go.Proofs.YteimojoicfjdjaaGreat
namespace Go.Proofs.YteimojoicfjdjaaGreat
open Value renaming int → I
open IntKind renaming i64 → Z
open Go.RowKit Pl Sx
set_option linter.unusedVariables false
set_option linter.unusedSimpArgs false
theorem need8_set{h:Hs}{ds:List Dk}{ps:List Pe}{rc:Bool}{i:Nat}{d e:Dk}(hd:ds[i]? = some d)(hs:e.sh=d.sh)(sh ca:Int):need8 h (ds.set i e) ps rc sh ca=need8 h ds ps rc sh ca:=by
 have q:shOf (ds.set i e) sh=shOf ds sh:=by
  unfold shOf
  by_cases c:i=sh.toNat
  ·subst c
   rw [get_setD hd,hd]
   exact hs
  ·rw [List.getElem?_set_ne c]
 unfold need8
 rw [q]
theorem call_floors{h:Hs}{f t:Int}(e:Hs.callC h f t=0):0≤f∧f≤h.fl - 1∧0≤t∧t≤h.fl - 1:=by
 unfold Hs.callC at e
 split at e
 ·rename_i c
  have a:=inB_iff.1 c.1
  have b:=inB_iff.1 c.2
  exact ⟨a.1,a.2,b.1,b.2⟩
 ·omega
theorem who8{full:Bool}{sh ca i f:Int}:∀ {l:List Pe},need full sh ca l=some (i,f)→∃ (k:Nat) (p:Pe),l[k]? = some p∧p.id=i∧skipB full sh ca p=false∧f=(if p.st=1 then p.tw else p.fr)
 | [],e=>by simp [need] at e
 | q :: l,e=>by
  unfold need at e
  by_cases z:skipB full sh ca q=true
  ·rw [if_pos z] at e
   obtain ⟨k,p,h1,h2⟩:=who8 e
   exact ⟨k + 1,p,by simpa using h1,h2⟩
  ·rw [if_neg z] at e
   have e:=Option.some.inj e
   exact ⟨0,q,rfl,congrArg Prod.fst e,by simpa using z,(congrArg Prod.snd e).symm⟩
theorem need8_in{h:Hs}{ds:List Dk}{nx:Int}{ps:List Pe}(k:LdOk h ⟨nx,ps⟩)(rc:Bool)(sh ca:Int):NeedIn h (need8 h ds ps rc sh ca):=by
 intro z
 unfold need8 at z ⊢
 split at z
 ·rename_i c
  rw [if_pos c]
  unfold rec8 at z ⊢
  split at z
  ·exact floor8_bd k.hf _
  ·exact absurd z (by decide)
 ·rename_i c
  rw [if_neg c]
  unfold Hs.need at z ⊢
  cases e:Go.Proofs.YteimojoicfjdjaaGreat.need (decide (h.ld≤(cnt 1 sh ca ps:Int))) sh ca ps with
  | none=>rw [e] at z;exact absurd z (by decide)
  | some r=>
   obtain ⟨id,f⟩:=r
   obtain ⟨j,p,hj,_,_,hf⟩:=who8 e
   have q:=k.ps j p hj
   generalize (if j=0 then (0:Int) else lastId (⟨nx,ps⟩:Lg).ps j)=last at q
   unfold Hs.pers at q
   split at q
   ·split at q
    ·omega
    ·unfold Hs.persC at q
     split at q
     ·rename_i cc
      have b:=call_floors cc
      show 0≤f∧f≤h.fl - 1
      rw [hf]
      split
      ·exact ⟨b.2.2.1,b.2.2.2⟩
      ·exact ⟨b.1,b.2.1⟩
     ·rename_i cc;exact absurd q cc
   ·omega
theorem set_at{ds:List Dk}{i:Nat}(hi:i < ds.length)(p:Dk):(ds.set i p)[i]? = some p:=by rw [List.getElem?_set_self hi]
theorem Gs.own{W w:World}{B gb g1 c1 g2 c2:Nat}{h:Hs}{ds:List Dk}{nx:Int}{ps:List Pe}{tk:Int}{rc:Bool}(G:Gs W w B gb g1 c1 g2 c2 h ds nx ps tk rc){i:Nat}{p:Dk}(hp:ds[i]? = some p):Gs W w B gb g1 c1 g2 c2 h (ds.set i p) nx ps tk rc:=by
 have e:ds.set i p=ds:=by
  obtain ⟨hi,q⟩:=List.getElem?_eq_some_iff.1 hp
  rw [← q]
  exact List.set_getElem_self hi
 rw [e]
 exact G
theorem Gs.deck1{W w:World}{B gb g1 c1 g2 c2:Nat}{h:Hs}{ds:List Dk}{nx:Int}{ps:List Pe}{tk:Int}{rc:Bool}{i:Nat}{a b:Dk}(G:Gs W w B gb g1 c1 g2 c2 h (ds.set i a) nx ps tk rc)(hi:i < ds.length){k:Nat}{u:Value}(hk:k < 13)(e:(cellsD a).set k u=cellsD b):Gs (W.setCell ⟨g1,i * 13 + k,none⟩ u) w B gb g1 c1 g2 c2 h (ds.set i b) nx ps tk rc:=by
 have q:=G.deck (set_at hi a) hk e
 rw [List.set_set] at q
 exact q
def jn{α:Type}(F:α→Prop)(K:α):Prop:=F K
theorem jn_of{α:Type}{F:α→Prop}{K:α}(Q:α→Prop)(hk:Q K)(hf:∀ J,Q J→F J):jn F K:=hf K hk
def PD(vs:List Value)(γ:List Pe)(r:Option Row)(vs1:List Value)(γ1:List Pe)(d1:Dk):Prop:=vs=vs1∧γ=γ1∧r=some (cellsD d1,0)
def pDk:List Value→Option Dk
 | [I Z a,I Z b,I Z c,I Z d,I Z e,I Z f,I Z g,I Z h,I Z i,I Z j,I Z k,I Z l,.bool m]=>some ⟨⟨⟨a,b,c⟩,⟨d,e,f⟩⟩,⟨⟨g,h⟩,⟨i,j⟩⟩,k,l,m⟩
 | _=>none
theorem pDk_c(D:Dk):pDk (cellsD D)=some D:=rfl
def gW(gb g1 g2 i:Nat):Nat→Nat × Nat:=fun q=>cond (Nat.beq q 1099511627776) (gb,0) (cond (Nat.beq q 2199023255552) (g1,i * 13) (cond (Nat.beq q 1099511627777) (g1,0) (g2,0)))
def gRow(h:Hs)(n c:Nat)(nx:Int)(np c2:Nat)(tk:Int)(rc:Bool):List Value:=[I Z h.fl,I Z h.gp,I Z h.ln,I Z h.rf,I Z h.sp,I Z h.pu,I Z h.br,I Z h.dr,I Z h.lv,I Z h.dO,I Z h.ld,I Z h.qu,.slice (some ⟨1099511627777,0,none⟩) n c,I Z nx,.slice (some ⟨1099511627778,0,none⟩) np c2,I Z tk,.bool rc]
structure Gp where
 h:Hs
 n:Nat
 c:Nat
 nx:Int
 np:Nat
 c2:Nat
 tk:Int
 rc:Bool
def gM(a:Gp)(d:Dk):Nat→Option Row:=fun q=>
 cond (Nat.beq q 1099511627776) (some (gRow a.h a.n a.c a.nx a.np a.c2 a.tk a.rc,0)) (cond (Nat.beq q 2199023255552) (some (cellsD d,0)) (cond (Nat.beq q 1099511627777) (some ([],0)) (cond (Nat.beq q 1099511627778) (some ([],0)) none)))
theorem gM_D(a:Gp)(D:Dk):gM a D 2199023255552=some (cellsD D,0):=rfl
theorem gM_own(a:Gp)(d:Dk):∀ q,isW q=false→gM a d q=none:=fun q hq=>by
 have ne:∀ k,isW k=true→Nat.beq q k=false:=fun k hk=>by
  cases f:Nat.beq q k
  ·rfl
  ·have:=Nat.eq_of_beq_eq_true f;subst this;rw [hk] at hq;cases hq
 unfold gM
 rw [ne _ (by decide),ne _ (by decide),ne _ (by decide),ne _ (by decide)]
 rfl
theorem Kept.of_below{n:Nat}{w w':World}(h:Below w.heap.size w w'):Kept n w w':=⟨h.size,fun k _ hk=>h.block k hk⟩
theorem Gs.below0{W W' w:World}{B gb g1 c1 g2 c2 n:Nat}{h:Hs}{ds:List Dk}{nx:Int}{ps:List Pe}{tk:Int}{rc:Bool}(G:Gs W w B gb g1 c1 g2 c2 h ds nx ps tk rc)(l1:gb < n)(l2:g1 < n)(l3:g2 < n)(hb:Below n W W'):Gs W' w B gb g1 c1 g2 c2 h ds nx ps tk rc:=
 ⟨G.f.below hb l1,G.d.below hb l2,G.p.below hb l3,G.n1,G.n2,G.n12,G.lo,G.fb.trans (hb.mono (Nat.le_of_lt (Nat.lt_of_le_of_lt G.lo l1)))⟩
theorem deck_set(D:Dk)(j:Nat)(u v:Value)(hu:(cellsD D)[j]? = some u)(hk:sameK u v=true):∃ D',(cellsD D).set j v=cellsD D':=by
 have hj:j < 13:=(List.getElem?_eq_some_iff.1 hu).1
 obtain ⟨⟨⟨a,b,c⟩,⟨d,e,f⟩⟩,⟨⟨g,h⟩,⟨i,k⟩⟩,l,m,n⟩:=D
 have hint:∀ z:Int,sameK (I Z z) v=true→∃ y,v=I Z y:=fun z hz=>by
  cases v with
  | int k n=>cases k <;> first | exact ⟨_,rfl⟩ | simp [sameK] at hz
  | _=>simp [sameK] at hz
 have hbool:∀ z:Bool,sameK (.bool z) v=true→∃ y,v=.bool y:=fun z hz=>by
  cases v with
  | bool b=>exact ⟨_,rfl⟩
  | _=>simp [sameK] at hz
 match j,hj with
 | 0,_=>cases hu;obtain ⟨y,rfl⟩:=hint _ hk;exact ⟨⟨⟨⟨y,b,c⟩,⟨d,e,f⟩⟩,⟨⟨g,h⟩,⟨i,k⟩⟩,l,m,n⟩,rfl⟩
 | 1,_=>cases hu;obtain ⟨y,rfl⟩:=hint _ hk;exact ⟨⟨⟨⟨a,y,c⟩,⟨d,e,f⟩⟩,⟨⟨g,h⟩,⟨i,k⟩⟩,l,m,n⟩,rfl⟩
 | 2,_=>cases hu;obtain ⟨y,rfl⟩:=hint _ hk;exact ⟨⟨⟨⟨a,b,y⟩,⟨d,e,f⟩⟩,⟨⟨g,h⟩,⟨i,k⟩⟩,l,m,n⟩,rfl⟩
 | 3,_=>cases hu;obtain ⟨y,rfl⟩:=hint _ hk;exact ⟨⟨⟨⟨a,b,c⟩,⟨y,e,f⟩⟩,⟨⟨g,h⟩,⟨i,k⟩⟩,l,m,n⟩,rfl⟩
 | 4,_=>cases hu;obtain ⟨y,rfl⟩:=hint _ hk;exact ⟨⟨⟨⟨a,b,c⟩,⟨d,y,f⟩⟩,⟨⟨g,h⟩,⟨i,k⟩⟩,l,m,n⟩,rfl⟩
 | 5,_=>cases hu;obtain ⟨y,rfl⟩:=hint _ hk;exact ⟨⟨⟨⟨a,b,c⟩,⟨d,e,y⟩⟩,⟨⟨g,h⟩,⟨i,k⟩⟩,l,m,n⟩,rfl⟩
 | 6,_=>cases hu;obtain ⟨y,rfl⟩:=hint _ hk;exact ⟨⟨⟨⟨a,b,c⟩,⟨d,e,f⟩⟩,⟨⟨y,h⟩,⟨i,k⟩⟩,l,m,n⟩,rfl⟩
 | 7,_=>cases hu;obtain ⟨y,rfl⟩:=hint _ hk;exact ⟨⟨⟨⟨a,b,c⟩,⟨d,e,f⟩⟩,⟨⟨g,y⟩,⟨i,k⟩⟩,l,m,n⟩,rfl⟩
 | 8,_=>cases hu;obtain ⟨y,rfl⟩:=hint _ hk;exact ⟨⟨⟨⟨a,b,c⟩,⟨d,e,f⟩⟩,⟨⟨g,h⟩,⟨y,k⟩⟩,l,m,n⟩,rfl⟩
 | 9,_=>cases hu;obtain ⟨y,rfl⟩:=hint _ hk;exact ⟨⟨⟨⟨a,b,c⟩,⟨d,e,f⟩⟩,⟨⟨g,h⟩,⟨i,y⟩⟩,l,m,n⟩,rfl⟩
 | 10,_=>cases hu;obtain ⟨y,rfl⟩:=hint _ hk;exact ⟨⟨⟨⟨a,b,c⟩,⟨d,e,f⟩⟩,⟨⟨g,h⟩,⟨i,k⟩⟩,y,m,n⟩,rfl⟩
 | 11,_=>cases hu;obtain ⟨y,rfl⟩:=hint _ hk;exact ⟨⟨⟨⟨a,b,c⟩,⟨d,e,f⟩⟩,⟨⟨g,h⟩,⟨i,k⟩⟩,l,y,n⟩,rfl⟩
 | 12,_=>cases hu;obtain ⟨y,rfl⟩:=hbool _ hk;exact ⟨⟨⟨⟨a,b,c⟩,⟨d,e,f⟩⟩,⟨⟨g,h⟩,⟨i,k⟩⟩,l,m,y⟩,rfl⟩
structure Fr(gb g1 g2 n:Nat)(W w:World):Prop where
 size:W.heap.size≤w.heap.size
 block:∀ k,k < n→k ≠ gb→k ≠ g1→k ≠ g2→w.heap[k]? = W.heap[k]?
theorem Fr.refl(gb g1 g2 n:Nat)(W:World):Fr gb g1 g2 n W W:=⟨Nat.le_refl _,fun _ _ _ _ _=>rfl⟩
theorem Fr.below{gb g1 g2 n:Nat}{W w w':World}(h:Fr gb g1 g2 n W w)(hb:Below n w w'):Fr gb g1 g2 n W w':=⟨Nat.le_trans h.size hb.size,fun k hk a b c=>(hb.block k hk).trans (h.block k hk a b c)⟩
theorem Fr.grown{gb g1 g2 n:Nat}{W w w':World}(h:Fr gb g1 g2 n W w)(hn:n≤w.heap.size)(hb:w.grownBy w' (some g2)):Fr gb g1 g2 n W w':=
 ⟨Nat.le_trans h.size hb.size,fun k hk a b c=>(hb.block k (by omega) (fun e=>c (Option.some.inj e))).trans (h.block k hk a b c)⟩
theorem Fr.trans{gb g1 g2 n:Nat}{W w w':World}(h:Fr gb g1 g2 n W w)(h':Fr gb g1 g2 w.heap.size w w')(hn:n≤w.heap.size):Fr gb g1 g2 n W w':=
 ⟨Nat.le_trans h.size h'.size,fun k hk a b c=>(h'.block k (by omega) a b c).trans (h.block k hk a b c)⟩
theorem Fr.kept{gb g1 g2 n:Nat}{W w:World}(h:Fr gb g1 g2 W.heap.size W w)(l1:gb < n)(l2:g1 < n)(l3:g2 < n):Kept n W w:=⟨h.size,fun k h1 h2=>h.block k h2 (by omega) (by omega) (by omega)⟩
theorem Kept.of_grown{n g2:Nat}{w w':World}(h:w.grownBy w' (some g2))(l3:g2 < n):Kept n w w':=⟨h.size,fun k h1 h2=>h.block k h2 (fun e=>by have:=Option.some.inj e;omega)⟩
def GJ(w W0:World)(n B fb gb g1 g2:Nat)(a:Gp)(ds:List Dk)(i:Nat)(γ:List Pe)(m:Nat→Option Row)(w':World):Prop:=
 ∃ D,(∀ q,isW q=true→m q=gM a D q)∧γ.length=a.np∧Fr fb g1 g2 n W0 w'∧Gs w' w B gb g1 a.c g2 a.c2 a.h (ds.set i D) a.nx γ a.tk a.rc
def gD0(w W0:World)(B fb gb g1 g2 n:Nat)(a:Gp)(ds:List Dk)(i:Nat)(hn:ds.length=a.n)(hi:i < ds.length)(l1:gb < n)(l2:g1 < n)(l3:g2 < n):Wd0 where
 n0:=n
 W:=gW gb g1 g2 i
 J:=GJ w W0 n B fb gb g1 g2 a ds i
 ext:=fun γ m m' w hm ⟨D,e,b⟩=>⟨D,fun q hq=>(hm q hq).trans (e q hq),b⟩
 below:=fun γ m w1 w2 _ hb ⟨D,e,hl,hf,b⟩=>⟨D,e,hl,hf.below hb,b.below0 l1 l2 l3 hb⟩
 cell:=fun γ m w1 q cs T ⟨D,e,hl,_,G⟩ hq hm=>by
  rw [e q hq] at hm
  unfold gM at hm
  have okS:(m 1099511627777).isSome=true:=by rw [e _ (by decide)];rfl
  have okP:(m 1099511627778).isSome=true:=by rw [e _ (by decide)];rfl
  cases e1:Nat.beq q 1099511627776 <;> rw [e1] at hm <;> simp only [cond_false,cond_true,Option.some.injEq,Prod.mk.injEq] at hm
  ·cases e2:Nat.beq q 2199023255552 <;> rw [e2] at hm <;> simp only [cond_false,cond_true,Option.some.injEq,Prod.mk.injEq] at hm
   ·cases e3:Nat.beq q 1099511627777 <;> rw [e3] at hm <;> simp only [cond_false,cond_true,Option.some.injEq,Prod.mk.injEq,reduceCtorEq] at hm
    ·cases e4:Nat.beq q 1099511627778 <;> rw [e4] at hm <;> simp only [cond_false,cond_true,Option.some.injEq,Prod.mk.injEq,reduceCtorEq] at hm
     obtain ⟨rfl,rfl⟩:=hm
     exact ⟨by unfold gW;rw [e1,e2,e3];exact l3,by simp,by simp⟩
    ·obtain ⟨rfl,rfl⟩:=hm
     exact ⟨by unfold gW;rw [e1,e2,e3];exact l2,by simp,by simp⟩
   ·obtain ⟨rfl,rfl⟩:=hm
    have hW:gW gb g1 g2 i q=(g1,i * 13):=by unfold gW;rw [e1,e2];rfl
    have hfl:∀ c ∈ cellsD D,flat1 c=true:=fun c hc=>by
     simp only [cellsD,List.mem_cons,List.not_mem_nil,or_false] at hc
     rcases hc with rfl | rfl | rfl | rfl | rfl | rfl | rfl | rfl | rfl | rfl | rfl | rfl | rfl <;> rfl
    rw [hW]
    refine ⟨l2,fun c hc=>?_,fun j v hv=>?_⟩
    ·have:=hfl c hc
     unfold flat1 at this
     refine ⟨?_,ok1_flat (hfl c hc)⟩
     unfold fw1;split <;> simp_all
    ·rw [ren1_flat (hfl v (List.mem_of_getElem? hv))]
     have hp:=set_at hi D
     have hj:j < 13:=(List.getElem?_eq_some_iff.1 hv).1
     have hl:i < (ds.set i D).length:=by simpa using hi
     exact ((World.ownsRow.cellAt G.d.2 (i * 13 + j) (by have:=G.d.1;omega)).trans (flatD_get hp hj)).trans hv
  ·obtain ⟨rfl,rfl⟩:=hm
   have hW:gW gb g1 g2 i q=(gb,0):=by unfold gW;rw [e1];rfl
   rw [hW]
   have hsl:(ds.set i D).length=a.n:=List.length_set.trans hn
   refine ⟨l1,fun c hc=>?_,fun j v hv=>?_⟩
   ·simp only [gRow,List.mem_cons,List.not_mem_nil,or_false] at hc
    rcases hc with rfl | rfl | rfl | rfl | rfl | rfl | rfl | rfl | rfl | rfl | rfl | rfl | rfl | rfl | rfl | rfl | rfl <;> first | exact ⟨rfl,trivial⟩ | exact ⟨(by decide:isW 1099511627777=true),okS⟩ | exact ⟨(by decide:isW 1099511627778=true),okP⟩
   ·have hj:j < 17:=(List.getElem?_eq_some_iff.1 hv).1
    have F:=G.f
    rw [hsl,hl] at F
    show w1.cell? ⟨gb,0 + j,none⟩=_
    rw [Nat.zero_add]
    match j,hj with
    | 0,_=>cases hv;exact F.c 0 _ rfl
    | 1,_=>cases hv;exact F.c 1 _ rfl
    | 2,_=>cases hv;exact F.c 2 _ rfl
    | 3,_=>cases hv;exact F.c 3 _ rfl
    | 4,_=>cases hv;exact F.c 4 _ rfl
    | 5,_=>cases hv;exact F.c 5 _ rfl
    | 6,_=>cases hv;exact F.c 6 _ rfl
    | 7,_=>cases hv;exact F.c 7 _ rfl
    | 8,_=>cases hv;exact F.c 8 _ rfl
    | 9,_=>cases hv;exact F.c 9 _ rfl
    | 10,_=>cases hv;exact F.c 10 _ rfl
    | 11,_=>cases hv;exact F.c 11 _ rfl
    | 12,_=>cases hv;exact F.c 12 _ rfl
    | 13,_=>cases hv;exact F.c 13 _ rfl
    | 14,_=>cases hv;exact F.c 14 _ rfl
    | 15,_=>cases hv;exact F.c 15 _ rfl
    | 16,_=>cases hv;exact F.c 16 _ rfl
 write:=fun γ m w1 q cs T j u v ⟨D,e,hl,hf,G⟩ hq hm hu hk=>by
  have hq':=rw_w hq
  rw [e q hq'] at hm
  unfold gM at hm
  have ne:∀ k,isRW k=false→Nat.beq q k=false:=fun k hk=>by
   cases f:Nat.beq q k
   ·rfl
   ·have:=Nat.eq_of_beq_eq_true f;subst this;rw [hk] at hq;cases hq
  rw [ne 1099511627776 (by decide),ne 1099511627777 (by decide),ne 1099511627778 (by decide)] at hm
  cases e2:Nat.beq q 2199023255552 <;> rw [e2] at hm <;> simp only [cond_false,cond_true,Option.some.injEq,Prod.mk.injEq,reduceCtorEq] at hm
  obtain ⟨rfl,rfl⟩:=hm
  obtain ⟨D',hD'⟩:=deck_set D j u v hu hk
  have hj:j < 13:=(List.getElem?_eq_some_iff.1 hu).1
  have hW:gW gb g1 g2 i q=(g1,i * 13):=by unfold gW;rw [ne 1099511627776 (by decide),e2];rfl
  rw [hW]
  refine ⟨G.d.fz _,D',fun x hx=>?_,hl,⟨by simpa using hf.size,fun k hk a b c=>(heap_setCell_other _ _ _ _ b).trans (hf.block k hk a b c)⟩,G.deck1 hi hj hD'⟩
  have hqq:q=2199023255552:=Nat.eq_of_beq_eq_true e2
  subst hqq
  cases ex:Nat.beq x 2199023255552
  ·simp only [cond_false]
   rw [e x hx]
   unfold gM
   rw [ex];rfl
  ·have:=Nat.eq_of_beq_eq_true ex
   subst this
   simp only [cond_true]
   rw [hD'];rfl
def gD(w W0:World)(B fb gb g1 g2 n:Nat)(a:Gp)(ds:List Dk)(i:Nat)(hn:ds.length=a.n)(hi:i < ds.length)(l1:gb < n)(l2:g1 < n)(l3:g2 < n):Wd:=(gD0 w W0 B fb gb g1 g2 n a ds i hn hi l1 l2 l3).wd
theorem lookW_mem:∀ {l:List EntW} {f:Nat} {e:EntW},lookW l f=some e→e ∈ l∧e.f=f
 | [],_,_,h=>by cases h
 | x :: l,f,e,h=>by
  simp only [lookW] at h
  cases b:Nat.beq x.f f <;> rw [b] at h
  ·have:=lookW_mem (l:=l) h;exact ⟨List.mem_cons_of_mem _ this.1,this.2⟩
  ·simp only [cond_true,Option.some.injEq] at h;subst h;exact ⟨by simp,Nat.eq_of_beq_eq_true b⟩
def gIx(i:Nat):TypeId→Value→Value→Option (Prop × Value):=fun T x iv=>match x,iv with
 | .slice (some ⟨b,0,none⟩) n c,I Z z=>cond (Nat.beq b 1099511627777 && Nat.beq T 32) (some (z=i∧i < n,.pointer (some ⟨2199023255552,0,none⟩))) none
 | _,_=>none
theorem gIx_ok{w W0:World}{B fb gb g1 g2 n:Nat}{a:Gp}{ds:List Dk}{i:Nat}{hn:ds.length=a.n}{hi:i < ds.length}{l1:gb < n}{l2:g1 < n}{l3:g2 < n} :
  ∀ T x iv p v,gIx i T x iv=some (p,v)→p→∀ γ m w1,(gD w W0 B fb gb g1 g2 n a ds i hn hi l1 l2 l3).J γ m w1→(Instr.indexAt T (ren (gD w W0 B fb gb g1 g2 n a ds i hn hi l1 l2 l3).W x) iv).run Tryz.prog w1=.ok (ren (gD w W0 B fb gb g1 g2 n a ds i hn hi l1 l2 l3).W v) w1∧fw x=true∧fw v=true∧okv m v:=by
 intro T x iv p v hv hp γ m w1 ⟨D',hm,_,_,G⟩
 unfold gIx at hv
 split at hv
 ·rename_i b nn cc z
  cases hb:Nat.beq b 1099511627777 && Nat.beq T 32 <;> rw [hb] at hv <;> simp only [cond_false,cond_true,reduceCtorEq,Option.some.injEq,Prod.mk.injEq] at hv
  obtain ⟨rfl,rfl⟩:=hv
  obtain ⟨rfl,hnn⟩:=hp
  obtain ⟨hb1,hb2⟩:=Bool.and_eq_true_iff.1 hb
  have:=Nat.eq_of_beq_eq_true hb1
  subst this
  have:=Nat.eq_of_beq_eq_true hb2
  subst this
  have hu:Tryz.prog.underlying 32=some (.slice 73):=by kernel_rfl
  have hsz:(Tryz.prog.info? 73).map (·.size)=some 13:=by kernel_rfl
  cases hinf:Tryz.prog.info? 73 with
  | none=>rw [hinf] at hsz;cases hsz
  | some inf=>
   rw [hinf] at hsz
   simp only [Option.map_some,Option.some.injEq] at hsz
   refine ⟨?_,(by decide:isW 1099511627777=true),by decide,?_⟩
   ·have h1:(0:Int)≤(i:Int)∧(i:Int) < (nn:Int):=by omega
    have w1:gW gb g1 g2 i 1099511627777=(g1,0):=rfl
    have w2:gW gb g1 g2 i 2199023255552=(g1,i * 13):=rfl
    simp [ren,ren1,gD,gD0,Wd0.wd,w1,w2,Instr.indexAt,asIntOf,run_underlying hu,sizeOf,typeInfo,hinf,hsz,hnn,Addr.add_mid]
   ·show (m 2199023255552).isSome=true
    rw [hm _ (by decide)];rfl
 ·cases hv
end Go.Proofs.YteimojoicfjdjaaGreat
namespace Go.Proofs.YteimojoicfjdjaaGreat
open Go.RowKit Pl Sx
set_option linter.unusedVariables false
set_option linter.unusedSimpArgs false
def less(q0:Nat)(m:Nat→Option Row):Nat→Option Row:=fun q=>cond (Nat.beq q q0) none (m q)
theorem less_ne{q0 q:Nat}{m:Nat→Option Row}(h:Nat.beq q q0=false):less q0 m q=m q:=by unfold less;rw [h];rfl
theorem less_some{q0 b:Nat}{m:Nat→Option Row}(hb:(less q0 m b).isSome=true):Nat.beq b q0=false∧(m b).isSome=true:=by
 unfold less at hb
 cases e:Nat.beq b q0 <;> rw [e] at hb
 ·exact ⟨rfl,hb⟩
 ·cases hb
theorem ok1_less{q0:Nat}{m:Nat→Option Row}{v:Value}(h:ok1 (less q0 m) v):ok1 m v:=ok1_mono (fun b hb=>(less_some hb).2) h
theorem ok1_isW{m m':Nat→Option Row}(hm:∀ q,isW q=true→m' q=m q){v:Value}(hf:fw1 v=true)(h:ok1 m v):ok1 m' v:=by
 cases v with
 | pointer a=>cases a with
  | none=>trivial
  | some a=>exact (congrArg Option.isSome (hm _ hf)).trans h
 | slice a n c=>cases a with
  | none=>trivial
  | some a=>exact (congrArg Option.isSome (hm _ hf)).trans h
 | _=>trivial
theorem ren1_less{q0 tb:Nat}{m:Nat→Option Row}{W:Nat→Nat × Nat}{v:Value}(h:ok1 (less q0 m) v):ren1 (fun q=>cond (Nat.beq q q0) (tb,0) (W q)) v=ren1 W v:=
 ren1_upd (fun b hb=>by rw [(less_some hb).1];rfl) h
def Sx.Wd0.add(D:Wd0)(q0 tb:Nat)(hq0:isW q0=true)(ht:tb < D.n0)(hd:∀ q,isRW q=true→Nat.beq q q0=false→∀ γ m w,D.J γ m w→(m q).isSome=true→(D.W q).1 ≠ tb)
  (keep:∀ γ m w j v,D.J γ m w→D.J γ m (w.setCell ⟨tb,j,none⟩ v)) (R:List Value→Prop) (hR:∀ cs j u v,R cs→cs[j]? = some u→sameK u v=true→R (cs.set j v)):Wd0 where
 n0:=D.n0
 W:=fun q=>cond (Nat.beq q q0) (tb,0) (D.W q)
 J:=fun γ m w=>∃ cs,R cs∧m q0=some (cs,0)∧(∀ c ∈ cs,fw1 c=true∧ok1 (less q0 m) c)∧Blk w tb (cs.map (ren1 D.W))∧D.J γ (less q0 m) w
 ext:=fun γ m m' w hm ⟨cs,h0,h1,h2,h3,h4⟩=>by
  have hl:∀ q,isW q=true→less q0 m' q=less q0 m q:=fun q hq=>by unfold less;rw [hm q hq]
  exact ⟨cs,h0,(hm _ hq0).trans h1,fun c hc=>⟨(h2 c hc).1,ok1_isW hl (h2 c hc).1 (h2 c hc).2⟩,h3,D.ext _ _ _ _ hl h4⟩
 below:=fun γ m w w' hn hb ⟨cs,h0,h1,h2,h3,h4⟩=>⟨cs,h0,h1,h2,h3.below hb ht,D.below _ _ _ _ hn hb h4⟩
 cell:=fun γ m w q cs T ⟨cs0,h0,h1,h2,h3,h4⟩ hq hm=>by
  cases e:Nat.beq q q0
  ·obtain ⟨a1,a2,a3⟩:=D.cell γ (less q0 m) w q cs T h4 hq ((less_ne e).trans hm)
   refine ⟨a1,fun c hc=>⟨(a2 c hc).1,ok1_less (a2 c hc).2⟩,fun j v hv=>?_⟩
   rw [ren1_less (a2 v (List.mem_of_getElem? hv)).2]
   exact a3 j v hv
  ·have:=Nat.eq_of_beq_eq_true e
   subst this
   rw [h1] at hm
   cases hm
   refine ⟨ht,fun c hc=>⟨(h2 c hc).1,ok1_less (h2 c hc).2⟩,fun j v hv=>?_⟩
   rw [ren1_less (h2 v (List.mem_of_getElem? hv)).2]
   show w.cell? ⟨tb,0 + j,none⟩=_
   rw [Nat.zero_add]
   exact h3.c j _ (by rw [List.getElem?_map,hv];rfl)
 write:=fun γ m w q cs T j u v ⟨cs0,h0,h1,h2,h3,h4⟩ hq hm hu hk=>by
  have fv:flat1 v=true:=by
   unfold sameK at hk
   split at hk
   ·rfl
   ·rfl
   ·cases hk
  cases e:Nat.beq q q0
  ·have e':Nat.beq q0 q=false:=by
    cases f:Nat.beq q0 q
    ·rfl
    ·have:=Nat.eq_of_beq_eq_true f;subst this;rw [Nat.beq_refl] at e;cases e
   obtain ⟨a1,a2⟩:=D.write γ (less q0 m) w q cs T j u v h4 hq ((less_ne e).trans hm) hu hk
   have ne:=hd q hq e _ _ _ h4 (by rw [less_ne e,hm];rfl)
   have hl:∀ x,less q0 (fun x=>cond (Nat.beq x q) (some (cs.set j v,T)) (m x)) x=(fun x=>cond (Nat.beq x q) (some (cs.set j v,T)) (less q0 m x)) x:=fun x=>by
    simp only [less]
    cases g:Nat.beq x q0
    ·rfl
    ·have:=Nat.eq_of_beq_eq_true g;subst this
     rw [e'];rfl
   refine ⟨a1,cs0,h0,?_,fun c hc=>⟨(h2 c hc).1,?_⟩,h3.other (fun x=>ne x.symm),D.ext _ _ _ _ (fun x _=>hl x) a2⟩
   ·show cond (Nat.beq q0 q) _ _=_
    rw [e'];exact h1
   ·refine ok1_mono (fun b hb=>?_) (h2 c hc).2
    rw [hl b]
    show (cond (Nat.beq b q) _ _:Option Row).isSome=true
    cases g:Nat.beq b q
    ·exact hb
    ·rfl
  ·have:=Nat.eq_of_beq_eq_true e
   subst this
   rw [h1] at hm
   cases hm
   have hj:j < cs.length:=(List.getElem?_eq_some_iff.1 hu).1
   have hl:∀ x,less q (fun x=>cond (Nat.beq x q) (some (cs.set j v,0)) (m x)) x=less q m x:=fun x=>by
    simp only [less]
    cases g:Nat.beq x q <;> rfl
   show w.frozen? ⟨tb,0 + j,none⟩=false∧_
   rw [Nat.zero_add]
   refine ⟨h3.f j (by rw [List.length_map];exact hj),cs.set j v,hR _ _ _ _ h0 hu hk,?_,fun c hc=>?_,?_,?_⟩
   ·show cond (Nat.beq q q) _ _=_
    rw [Nat.beq_refl];rfl
   ·rcases List.mem_or_eq_of_mem_set hc with h | rfl
    ·exact ⟨(h2 c h).1,ok1_isW (fun x _=>hl x) (h2 c h).1 (h2 c h).2⟩
    ·exact ⟨by unfold fw1;unfold flat1 at fv;split <;> simp_all,ok1_flat fv⟩
   ·have:=h3.set (k:=j) v (by rw [List.length_map];exact hj)
    rw [List.map_set,ren1_flat fv]
    show Blk (w.setCell ⟨tb,0 + j,none⟩ v) tb _
    rw [Nat.zero_add]
    exact this
   ·refine D.ext _ _ _ _ (fun x _=>hl x) ?_
    show D.J γ (less q m) (w.setCell ⟨tb,0 + j,none⟩ v)
    exact keep _ _ _ _ _ h4
end Go.Proofs.YteimojoicfjdjaaGreat
namespace Go.Proofs.YteimojoicfjdjaaGreat
open Value renaming int → I
open IntKind renaming i64 → Z
open Go.RowKit Pl Sx
set_option linter.unusedVariables false
set_option linter.unusedSimpArgs false
def eFl8:Ent Tryz.prog:=e2 kH kC 109 (fun h_ c_=>some (h_.Ok)) (fun h_ c_=>I Z (floor8 h_ c_)) fun h_ c_ p w=>l8Floor_any h_ (p _ rfl) c_ w
def eStd:Ent Tryz.prog:=e3 kH kC kI 106 (fun h_ c_ f_=>some (c_.vel=0→h_.Ok∧(0≤f_∧f_≤12)∧-100000000≤c_.pos∧c_.pos≤100000000)) (fun h_ c_ f_=>.bool ((c_.vel == 0) && Hs.near h_ c_ f_)) fun h_ c_ f_ p w=>l3Stands_b h_ c_ f_ (p _ rfl) w
section
variable (a:Gp) (ds:List Dk) (i:Nat)
def wNeed:EntW:=⟨65,fun γ m az=>match az,m 2199023255552 with
 | [.pointer (some ⟨b,0,none⟩),I Z i',I Z c],some (cs,_)=>cond (Nat.beq b 1099511627776) (match pDk cs with
  | some D=>some (some (i'=i),.agg #[I Z (need8 a.h (ds.set i D) γ a.rc i c).1,I Z (need8 a.h (ds.set i D) γ a.rc i c).2.1,I Z (need8 a.h (ds.set i D) γ a.rc i c).2.2],none)
  | none=>none) none
 | _,_=>none⟩
def wCar:EntW:=⟨107,fun γ m az=>match az,m 2199023255552 with
 | [.pointer (some ⟨b,0,none⟩),I Z c],some (cs,_)=>cond (Nat.beq b 2199023255552) (match pDk cs with
  | some D=>some (none,.agg #[I Z (carAt D.sh c).pos,I Z (carAt D.sh c).vel,I Z (carAt D.sh c).door],none)
  | none=>none) none
 | _,_=>none⟩
def wOut:EntW:=⟨115,fun γ m az=>match az with
 | [.pointer (some ⟨b,13,none⟩),I Z i',I Z c,I Z f]=>cond (Nat.beq b 1099511627776) (some (none,.tuple #[],some (γ.map (outP i' c f)))) none
 | _=>none⟩
def wAlight:EntW:=⟨116,fun γ m az=>match az with
 | [.pointer (some ⟨b,13,none⟩),I Z i',I Z c,I Z f]=>cond (Nat.beq b 1099511627776) (some (none,.tuple #[],some (γ.map (alightP i' c f)))) none
 | _=>none⟩
def wBoard:EntW:=⟨117,fun γ m az=>match az with
 | [x,.pointer (some ⟨b,13,none⟩),I Z i',I Z c,I Z f]=>cond (Nat.beq b 1099511627776) (match pH x with
  | some h=>some (none,.tuple #[],some (boardS h.ld i' c f γ γ.length))
  | none=>none) none
 | _=>none⟩
def cLo:Cf:=⟨[wNeed a ds i,wCar,wOut,wAlight,wBoard],gIx i,true,[]⟩
end
theorem dk_inj{D d:Dk}(hr:some (cellsD D,(0:Nat))=some (cellsD d,0)):D=d:=by
 have e:=congrArg (fun o=>(o.map (·.1)).bind pDk) hr
 simpa [pDk_c] using e
theorem cLo_ok{w W0:World}{B gb g1 g2 n:Nat}{a:Gp}{ds:List Dk}{i:Nat}{hn:ds.length=a.n}{hi:i < ds.length}{l1:gb < n}{l2:g1 < n}{l3:g2 < n}
  (oh:a.h.Ok) (hld:a.n≤1048576) (hlp:a.np≤1048576):WOk Tryz.prog (gD w W0 B gb gb g1 g2 n a ds i hn hi l1 l2 l3) (cLo a ds i):=by
 have hsl:∀ D,(ds.set i D).length=a.n:=fun D=>List.length_set.trans hn
 have hli:(i:Int) < (a.n:Int):=by omega
 refine ⟨fun f e he=>?_,fun f e he=>?_,gIx_ok,fun f e h=>by cases h⟩
 ·obtain ⟨hm,rfl⟩:=lookW_mem he
  simp only [cLo,List.mem_cons,List.not_mem_nil,or_false] at hm
  refine ⟨rfl,?_⟩
  rcases hm with rfl | rfl | rfl | rfl | rfl
  ·rintro γ m az p v g hsp hp w1 hb1 ⟨D',hm,hl,hf,G⟩
   simp only [wNeed,hm 2199023255552 (by decide),gM_D] at hsp
   split at hsp
   ·rename_i b i' c cs U hcs
    cases hcs
    cases hb:Nat.beq b 1099511627776 <;> rw [hb] at hsp <;> simp only [cond_false,cond_true,reduceCtorEq,pDk_c,Option.some.injEq,Prod.mk.injEq] at hsp
    obtain ⟨rfl,rfl,rfl⟩:=hsp
    cases hp _ rfl
    cases Nat.eq_of_beq_eq_true hb
    refine (l8Need_any gb a.h (ds.set i D') _ a.c a.nx γ _ a.c2 a.tk a.rc i c oh (by omega) (by rw [hsl];exact hli) (by rw [hsl];exact hld) (by omega) _ rfl w1 G.f G.din G.pin).mono ?_
    rintro e' w' ⟨rfl,hb⟩
    exact ⟨rfl,⟨D',hm,hl,hf.below (hb.mono hb1),G.below hb⟩,Kept.of_below hb⟩
   ·cases hsp
  ·rintro γ m az p v g hsp hp w1 hb1 ⟨D',hm,hl,hf,G⟩
   simp only [wCar,hm 2199023255552 (by decide),gM_D] at hsp
   split at hsp
   ·rename_i b c cs U hcs
    cases hcs
    cases hb:Nat.beq b 2199023255552 <;> rw [hb] at hsp <;> simp only [cond_false,cond_true,reduceCtorEq,pDk_c,Option.some.injEq,Prod.mk.injEq] at hsp
    obtain ⟨rfl,rfl,rfl⟩:=hsp
    cases Nat.eq_of_beq_eq_true hb
    refine (l8Car_any g1 (i * 13) D' c w1 (G.d.d13 (set_at hi D'))).mono ?_
    rintro e' w' ⟨rfl,hb⟩
    exact ⟨rfl,⟨D',hm,hl,hf.below (hb.mono hb1),G.below hb⟩,Kept.of_below hb⟩
   ·cases hsp
  ·rintro γ m az p v g hsp hp w1 hb1 ⟨D',hm,hl,hf,G⟩
   simp only [wOut] at hsp
   split at hsp
   ·rename_i b i' c q
    cases hb:Nat.beq b 1099511627776 <;> rw [hb] at hsp <;> simp only [cond_false,cond_true,reduceCtorEq,Option.some.injEq,Prod.mk.injEq] at hsp
    obtain ⟨rfl,rfl,rfl⟩:=hsp
    cases Nat.eq_of_beq_eq_true hb
    refine (l7Out_anyO gb 13 a.nx B g2 γ.length a.c2 γ i' c q (by omega) G.n2 w1 G.led G.p).mono ?_
    rintro e' w' ⟨rfl,ho,hg⟩
    exact ⟨rfl,⟨D',hm,by simp [hl],hf.grown hb1 hg,G.people ho hg⟩,Kept.of_grown hg l3⟩
   ·cases hsp
  ·rintro γ m az p v g hsp hp w1 hb1 ⟨D',hm,hl,hf,G⟩
   simp only [wAlight] at hsp
   split at hsp
   ·rename_i b i' c q
    cases hb:Nat.beq b 1099511627776 <;> rw [hb] at hsp <;> simp only [cond_false,cond_true,reduceCtorEq,Option.some.injEq,Prod.mk.injEq] at hsp
    obtain ⟨rfl,rfl,rfl⟩:=hsp
    cases Nat.eq_of_beq_eq_true hb
    refine (l7Alight_anyO gb 13 a.nx B g2 γ.length a.c2 γ i' c q (by omega) G.n2 w1 G.led G.p).mono ?_
    rintro e' w' ⟨rfl,ho,hg⟩
    exact ⟨rfl,⟨D',hm,by simp [hl],hf.grown hb1 hg,G.people ho hg⟩,Kept.of_grown hg l3⟩
   ·cases hsp
  ·rintro γ m az p v g hsp hp w1 hb1 ⟨D',hm,hl,hf,G⟩
   simp only [wBoard] at hsp
   split at hsp
   ·rename_i x b i' c q
    cases hb:Nat.beq b 1099511627776 <;> rw [hb] at hsp <;> simp only [cond_false,cond_true,reduceCtorEq] at hsp
    cases hx:pH x with
    | none=>rw [hx] at hsp;cases hsp
    | some h'=>
     rw [hx] at hsp
     simp only [Option.some.injEq,Prod.mk.injEq] at hsp
     obtain ⟨rfl,rfl,rfl⟩:=hsp
     cases Nat.eq_of_beq_eq_true hb
     have hxe:=kH.e _ _ hx
     subst hxe
     refine (l7Board_anyO h' gb 13 a.nx B g2 γ.length a.c2 γ i' c q (by omega) G.n2 w1 G.led G.p).mono ?_
     rintro e' w' ⟨rfl,ho,hg⟩
     exact ⟨rfl,⟨D',hm,by have:=ho.1;simpa [hl] using this,hf.grown hb1 hg,G.people ho hg⟩,Kept.of_grown hg l3⟩
   ·cases hsp
 ·obtain ⟨hm,_⟩:=lookW_mem he
  simp only [cLo,List.mem_cons,List.not_mem_nil,or_false] at hm
  intro γ m m' az h1
  have:=h1 2199023255552 (by decide)
  rcases hm with rfl | rfl | rfl | rfl | rfl <;> simp only [wNeed,wCar,wOut,wAlight,wBoard,this]
theorem l8Starts_w{w:World}{B gb g1 g2:Nat}{a:Gp}{ds:List Dk}{i:Nat}(oh:a.h.Ok)(hn:ds.length=a.n)(hi:i < ds.length)(hld:a.n≤1048576)(hlp:a.np≤1048576)(d:Dk)(ps:List Pe)(hl:ps.length=a.np)(ca ph:Int)(n:Int × Int × Int)
  (hd:need8 a.h (ds.set i d) ps a.rc i ca=n) (hq:NeedIn a.h n) (p1:-100000000≤(carAt d.sh ca).pos) (p2:(carAt d.sh ca).pos≤100000000) (W:World) (G:Gs W w B gb g1 a.c g2 a.c2 a.h (ds.set i d) a.nx ps a.tk a.rc) :
  Calls Tryz.prog 63 #[.pointer (some ⟨gb,0,none⟩),I Z (i:Int),I Z ca,I Z ph] W fun e w'=>e=.returned (I Z (startP a.h d.hd n (carAt d.sh ca) ph))∧GJ w W W.heap.size B gb gb g1 g2 a ds i ps (gM a d) w':=by
 have hC:=cLo_ok (w:=w) (W0:=W) (B:=B) (n:=W.heap.size) (hn:=hn) (hi:=hi) (l1:=G.f.lt) (l2:=G.d.bl.2) (l3:=G.p.bl.2) oh hld hlp
 refine (runs_ok (L:=[eStd]) (C:=cLo a ds i) mo hC Tryz.func63 (args:=[.pointer (some ⟨1099511627776,0,none⟩),I Z (i:Int),I Z ca,I Z ph]) (m:=gM a d) (g:=ps) (Post:=(fun vs s=>PD vs s.g (s.m 2199023255552) [I Z (startP a.h d.hd n (carAt d.sh ca) ph)] ps d)) (T:=((i:Int)=i)∧(∀ x1:Int,x1=((need8 a.h (ds.set i d) ps a.rc i ca).1)→∀ x2:Int,x2=((need8 a.h (ds.set i d) ps a.rc i ca).2.1)→∀ x3:Int,x3=((need8 a.h (ds.set i d) ps a.rc i ca).2.2)→jn (fun (J1:Bool→Prop)=>cond (ph == 0) (((i:Int)=(i:Int)∧i < a.n)∧cond (!d.hd) (cond (x1 == 0) (((i:Int)=(i:Int)∧i < a.n)∧∀ x4:Int,x4=(carAt d.sh ca).pos→∀ x5:Int,x5=(carAt d.sh ca).vel→∀ x6:Int,x6=(carAt d.sh ca).door→((⟨x4,x5,x6⟩:Cs).vel=0→a.h.Ok∧(0≤x3∧x3≤12)∧-100000000≤(⟨x4,x5,x6⟩:Cs).pos∧(⟨x4,x5,x6⟩:Cs).pos≤100000000)∧(∀ x7:Bool,x7=(((⟨x4,x5,x6⟩:Cs).vel == 0) && Hs.near a.h (⟨x4,x5,x6⟩:Cs) x3)→(J1 x7))) ((J1 false))) ((J1 false))) ((J1 false))) (fun (y1_0:Bool)=>cond y1_0 (PD [I Z 1] ps (some (cellsD d,0)) [I Z (startP a.h d.hd n (carAt d.sh ca) ph)] ps d) (PD [I Z ph] ps (some (cellsD d,0)) [I Z (startP a.h d.hd n (carAt d.sh ca) ph)] ps d)))) (by kernel_rfl) ?_ W (Nat.le_refl _) (gM_own _ _) ⟨d,fun q _=>rfl,hl,Fr.refl _ _ _ _ _,G⟩).mono ?_
 ·refine ⟨rfl,?_⟩
  rw [hd]
  rintro x1 rfl x2 rfl x3 rfl
  obtain ⟨c,hc⟩:∃ c,carAt d.sh ca=c:=⟨_,rfl⟩
  rw [hc] at p1 p2 ⊢
  refine jn_of (fun J=>J (decide (ph=0∧d.hd=false∧n.1=0∧stB a.h c n.2.2=true))) ?_ (fun J hJ=>?_)
  ·refine if_b (fun q=>⟨?_,rfl,rfl⟩) (fun q=>⟨?_,rfl,rfl⟩)
   ·simp only [decide_eq_true_eq] at q;unfold startP;rw [if_pos q]
   ·simp only [decide_eq_false_iff_not] at q;unfold startP;rw [if_neg q]
  ·refine if_b (fun e=>⟨⟨rfl,by omega⟩,?_⟩) (fun e=>?_)
   ·refine if_b (fun e2=>if_b (fun e3=>⟨⟨rfl,by omega⟩,?_⟩) (fun e3=>?_)) (fun e2=>?_)
    ·rintro x4 rfl x5 rfl x6 rfl
     refine ⟨fun _=>⟨oh,?_,p1,p2⟩,?_⟩
     ·have A:=oh.all;have:=hq (by simpa using e3);omega
     ·rintro x7 rfl
      have e':decide (ph=0∧d.hd=false∧n.1=0∧stB a.h c n.2.2=true)=((c.vel == 0) && Hs.near a.h c n.2.2):=by
       simp at e e2 e3;cases hz:(c.vel == 0) && Hs.near a.h c n.2.2 <;> simp_all [stB]
      rw [e'] at hJ;exact hJ
    ·simp at e3;simpa [e3] using hJ
    ·simp at e2;simpa [e2] using hJ
   ·simp at e;simpa [e] using hJ
 ·rintro e w' ⟨vs,s,rfl,⟨rfl,hg,hr⟩,⟨D,hm,hl',hf,G'⟩,_⟩
  rw [hm 2199023255552 (by decide),gM_D] at hr
  cases dk_inj hr
  rw [hg] at G'
  exact ⟨rfl,d,fun q _=>rfl,hl,hf,G'⟩
theorem l8Ends_w{w:World}{B gb g1 g2:Nat}{a:Gp}{ds:List Dk}{i:Nat}(oh:a.h.Ok)(hn:ds.length=a.n)(hi:i < ds.length)(hld:a.n≤1048576)(hlp:a.np≤1048576)(d:Dk)(ps:List Pe)(hl:ps.length=a.np)(ca ph:Int)(W:World)(G:Gs W w B gb g1 a.c g2 a.c2 a.h (ds.set i d) a.nx ps a.tk a.rc) :
  Calls Tryz.prog 71 #[.pointer (some ⟨gb,0,none⟩),I Z (i:Int),I Z ca,I Z ph] W fun e w'=>e=.returned (I Z (endK a.h (carAt d.sh ca) ph))∧GJ w W W.heap.size B gb gb g1 g2 a ds i (endL a.h a.rc ps i ca (carAt d.sh ca) ph) (gM a d) w':=by
 have hC:=cLo_ok (w:=w) (W0:=W) (B:=B) (n:=W.heap.size) (hn:=hn) (hi:=hi) (l1:=G.f.lt) (l2:=G.d.bl.2) (l3:=G.p.bl.2) oh hld hlp
 refine (runs_ok (L:=[eFl8]) (C:=cLo a ds i) mo hC Tryz.func71 (args:=[.pointer (some ⟨1099511627776,0,none⟩),I Z (i:Int),I Z ca,I Z ph]) (m:=gM a d) (g:=ps) (Post:=(fun vs s=>PD vs s.g (s.m 2199023255552) [I Z (endK a.h (carAt d.sh ca) ph)] (endL a.h a.rc ps i ca (carAt d.sh ca) ph) d)) (T:=((i:Int)=(i:Int)∧i < a.n)∧∀ x1:Int,x1=(carAt d.sh ca).pos→∀ x2:Int,x2=(carAt d.sh ca).vel→∀ x3:Int,x3=(carAt d.sh ca).door→jn (fun (J1:Bool→Prop)=>cond (ph == 1) ((J1 (x3 == a.h.dO))) ((J1 false))) (fun (y1_0:Bool)=>cond y1_0 ((a.h.Ok)∧(∀ x4:Int,x4=(floor8 a.h (⟨x1,x2,x3⟩:Cs))→cond a.rc (PD [I Z 2] (ps.map (outP (i:Int) ca x4)) (some (cellsD d,0)) [I Z (endK a.h (carAt d.sh ca) ph)] (endL a.h a.rc ps i ca (carAt d.sh ca) ph) d) (PD [I Z 2] (boardS a.h.ld (i:Int) ca x4 (ps.map (alightP (i:Int) ca x4)) (ps.map (alightP (i:Int) ca x4)).length) (some (cellsD d,0)) [I Z (endK a.h (carAt d.sh ca) ph)] (endL a.h a.rc ps i ca (carAt d.sh ca) ph) d))) (jn (fun (J3:Bool→Prop)=>cond (ph == 2) ((J3 (x3 == 0))) ((J3 false))) (fun (y3_0:Bool)=>cond y3_0 (PD [I Z 0] ps (some (cellsD d,0)) [I Z (endK a.h (carAt d.sh ca) ph)] (endL a.h a.rc ps i ca (carAt d.sh ca) ph) d) (PD [I Z ph] ps (some (cellsD d,0)) [I Z (endK a.h (carAt d.sh ca) ph)] (endL a.h a.rc ps i ca (carAt d.sh ca) ph) d))))) (by kernel_rfl) ?_ W (Nat.le_refl _) (gM_own _ _) ⟨d,fun q _=>rfl,hl,Fr.refl _ _ _ _ _,G⟩).mono ?_
 ·refine ⟨⟨rfl,by omega⟩,?_⟩
  rintro x1 rfl x2 rfl x3 rfl
  obtain ⟨c,hc⟩:∃ c,carAt d.sh ca=c:=⟨_,rfl⟩
  rw [hc]
  refine jn_of (fun J=>J (decide (ph=1∧c.door=a.h.dO))) ?_ (fun J hJ=>?_)
  ·refine if_b (fun q=>⟨oh,?_⟩) (fun q=>?_)
   ·simp only [decide_eq_true_eq] at q
    rintro x4 rfl
    refine if_b (fun r=>⟨?_,?_,rfl⟩) (fun r=>⟨?_,?_,rfl⟩)
    all_goals simp only [endK,endL,if_pos q,r,List.length_map,if_true,Bool.false_eq_true,if_false]
   ·simp only [decide_eq_false_iff_not] at q
    refine jn_of (fun J=>J (decide (ph=2∧c.door=0))) ?_ (fun J hJ=>?_)
    ·refine if_b (fun r=>⟨?_,?_,rfl⟩) (fun r=>⟨?_,?_,rfl⟩)
     all_goals simp only [decide_eq_true_eq,decide_eq_false_iff_not] at r
     all_goals first | (simp only [endK,endL,if_neg q,if_pos r];done) | (simp only [endK,endL,if_neg q,if_neg r];done)
    ·refine if_b (fun e=>?_) (fun e=>?_)
     ·simp at e;cases hz:(c.door == 0) <;> simp_all
     ·simp at e;simpa [e] using hJ
  ·refine if_b (fun e=>?_) (fun e=>?_)
   ·simp at e;cases hz:(c.door == a.h.dO) <;> simp_all
   ·simp at e;simpa [e] using hJ
 ·rintro e w' ⟨vs,s,rfl,⟨rfl,hg,hr⟩,⟨D,hm,hl',hf,G'⟩,_⟩
  rw [hm 2199023255552 (by decide),gM_D] at hr
  cases dk_inj hr
  rw [hg] at G' hl'
  exact ⟨rfl,d,fun q _=>rfl,hl',hf,G'⟩
end Go.Proofs.YteimojoicfjdjaaGreat
