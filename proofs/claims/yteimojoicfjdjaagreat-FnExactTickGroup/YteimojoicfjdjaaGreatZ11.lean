/- Parts of the proof: SxF, SxG. -/
import Derived.Test.YteimojoicfjdjaaGreatZ10
namespace Go.Proofs.YteimojoicfjdjaaGreat.Sx
open Go.RowKit Pl
set_option linter.unusedSimpArgs false
set_option linter.unusedVariables false
def bef(ops:Array Oper)(i j:Nat):Bool:=((Region.before ops).getD i 0).testBit j
def hits(q:Option (Nat × Row))(e:Eff):Bool:=
 match q with
 | none=>false
 | some (q,_)=>(match e.b with | some (b,_)=>Nat.beq b q | none=>false) || (match e.c with | some c=>Nat.beq c q | none=>false) || (isW q && e.j)
def clash(e f:Eff):Bool:=hits e.b f || hits f.b e || (e.g.isSome && (f.j || f.g.isSome)) || (f.g.isSome && e.j)
def tmpsOk(ops:Array Oper):Bool:=
 (List.range ops.size).all fun j=>(List.range j).all fun i=>bef ops j i || (match ops[i]?,ops[j]? with | some x,some y=>x.apart ops y | _,_=>false)
def edgesOk(ops:Array Oper):Bool:=
 (List.range ops.size).all fun j=>match ops[j]? with | some o=>o.after.toList.all fun e=>!Region.binds .any e || Nat.blt e.on j | none=>false
/-! ### What comes before what -/
section
variable {ops:Array Oper}
theorem testBit_two_pow'(a b:Nat)(h:(2 ^ a).testBit b=true):a=b:=by
 rw [Nat.testBit_two_pow] at h
 simpa using h
def mask(acc:Array Nat)(o:Oper):Nat:=o.after.foldl (fun s e=>if Region.binds .any e then s ||| 2 ^ e.on ||| acc.getD e.on 0 else s) 0
theorem mask_bit(acc:Array Nat)(o:Oper)(y:Nat)(h:(mask acc o).testBit y=true):∃ e ∈ o.after,Region.binds .any e=true∧(e.on=y ∨ (acc.getD e.on 0).testBit y=true):=by
 unfold mask at h
 rw [← Array.foldl_toList] at h
 have key:∀ (l:List Edge) (s:Nat),(l.foldl (fun s e=>if Region.binds .any e then s ||| 2 ^ e.on ||| acc.getD e.on 0 else s) s).testBit y=true →
   s.testBit y=true ∨ ∃ e ∈ l,Region.binds .any e=true∧(e.on=y ∨ (acc.getD e.on 0).testBit y=true):=by
  intro l
  induction l with
  | nil=>intro s h;exact .inl h
  | cons e l ih=>
   intro s h
   simp only [List.foldl_cons] at h
   rcases ih _ h with h | ⟨e',he',h'⟩
   ·cases hb:Region.binds .any e
    ·rw [hb] at h;simp only [Bool.false_eq_true,if_false] at h;exact .inl h
    ·rw [hb] at h
     simp only [if_true,Nat.testBit_or,Bool.or_eq_true] at h
     rcases h with (h | h) | h
     ·exact .inl h
     ·exact .inr ⟨e,by simp,hb,.inl (testBit_two_pow' _ _ h)⟩
     ·exact .inr ⟨e,by simp,hb,.inr h⟩
   ·exact .inr ⟨e',by simp [he'],h'⟩
 rcases key _ _ h with h | ⟨e,he,h⟩
 ·simp at h
 ·exact ⟨e,by simpa using he,h⟩
theorem before_push(l:List Oper)(acc:Array Nat):l.foldl (fun acc o=>acc.push (mask acc o)) acc=acc ++ ((l.foldl (fun acc o=>acc.push (mask acc o)) acc).extract acc.size):=by
 have key:∀ (l:List Oper) (acc:Array Nat),∃ t:Array Nat,l.foldl (fun acc o=>acc.push (mask acc o)) acc=acc ++ t:=by
  intro l
  induction l with
  | nil=>intro acc;exact ⟨#[],by simp⟩
  | cons o l ih=>
   intro acc
   obtain ⟨t,ht⟩:=ih (acc.push (mask acc o))
   exact ⟨#[mask acc o] ++ t,by simp only [List.foldl_cons,ht];simp⟩
 obtain ⟨t,ht⟩:=key l acc
 rw [ht]
 simp
theorem before_get:∀ (l:List Oper) (acc:Array Nat) (j:Nat) (o:Oper),l[j]? = some o →
  ∃ pre:Array Nat,(l.foldl (fun acc o=>acc.push (mask acc o)) acc)[acc.size + j]? = some (mask pre o)∧pre.size=acc.size + j∧∀ k,k < acc.size + j→(l.foldl (fun acc o=>acc.push (mask acc o)) acc)[k]? = pre[k]?:=by
 intro l
 induction l with
 | nil=>intro acc j o h;simp at h
 | cons x l ih=>
  intro acc j o h
  cases j with
  | zero=>
   simp at h;subst h
   refine ⟨acc,?_,by simp,?_⟩
   ·rw [List.foldl_cons,before_push,Nat.add_zero,Array.getElem?_append_left (by simp),Array.getElem?_push_size]
   ·intro k hk
    rw [List.foldl_cons,before_push]
    simp only [Nat.add_zero] at hk
    rw [Array.getElem?_append_left (by simp;omega),Array.getElem?_push_lt hk,Array.getElem?_eq_getElem hk]
  | succ j=>
   obtain ⟨pre,h1,h2,h3⟩:=ih (acc.push (mask acc x)) j o (by simpa using h)
   simp only [Array.size_push] at h1 h2 h3
   refine ⟨pre,?_,by omega,?_⟩
   ·rw [List.foldl_cons,show acc.size + (j + 1)=acc.size + 1 + j by omega];exact h1
   ·intro k hk
    rw [List.foldl_cons];exact h3 k (by omega)
theorem before_eq:Region.before ops=ops.toList.foldl (fun acc o=>acc.push (mask acc o)) #[]:=by
 unfold Region.before
 rw [← Array.foldl_toList]
 rfl
theorem bef_edge(hE:edgesOk ops=true){j y:Nat}(h:bef ops j y=true):∃ o,ops[j]? = some o∧∃ e ∈ o.after,Region.binds .any e=true∧e.on < j∧(e.on=y ∨ bef ops e.on y=true):=by
 have hlt:j < ops.size:=by
  unfold bef at h
  refine Classical.byContradiction fun hge=>?_
  have hsz:(Region.before ops).size=ops.size:=by
   rw [before_eq]
   have:∀ (l:List Oper) (acc:Array Nat),(l.foldl (fun acc o=>acc.push (mask acc o)) acc).size=acc.size + l.length:=by
    intro l
    induction l with
    | nil=>simp
    | cons x l ih=>intro acc;simp only [List.foldl_cons,ih,Array.size_push,List.length_cons];omega
   rw [this];simp
  have:(Region.before ops).getD j 0=0:=by simp [Array.getD,hsz,show ¬ j < ops.size from hge]
  rw [this] at h;simp at h
 obtain ⟨o,ho⟩:∃ o,ops[j]? = some o:=⟨ops[j],by simp [hlt]⟩
 obtain ⟨pre,h1,h2,h3⟩:=before_get ops.toList #[] j o (by simpa using ho)
 rw [← before_eq] at h1 h3
 simp only [Array.size_empty,List.size_toArray,List.length_nil,Nat.zero_add] at h1 h2 h3
 have hm:(Region.before ops).getD j 0=mask pre o:=by simp [Array.getD_eq_getD_getElem?,h1]
 unfold bef at h
 rw [hm] at h
 obtain ⟨e,he,hb,hy⟩:=mask_bit pre o y h
 have hon:e.on < j:=by
  have:=List.all_eq_true.1 hE j (by simpa using hlt)
  simp only [ho] at this
  have:=List.all_eq_true.1 this e (by simpa using he)
  simp [hb,Nat.blt_eq] at this
  exact this
 refine ⟨o,ho,e,he,hb,hon,hy.imp id fun h=>?_⟩
 unfold bef
 have:(Region.before ops).getD e.on 0=pre.getD e.on 0:=by simp [Array.getD_eq_getD_getElem?,h3 e.on hon]
 rw [this];exact h
def Shut(ops:Array Oper)(listed:Array Bool):Prop:=∀ j o,ops[j]? = some o→listed.getD j false=true→∀ e ∈ o.after,Region.binds .any e=true→listed.getD e.on false=true
theorem Shut.bef(hE:edgesOk ops=true){listed:Array Bool}(hs:Shut ops listed):∀ (j y:Nat),listed.getD j false=true→Sx.bef ops j y=true→listed.getD y false=true:=by
 intro j
 induction j using Nat.strongRecOn with
 | _ j ih=>
  intro y hj hb
  obtain ⟨o,ho,e,he,hbi,hon,hy⟩:=bef_edge hE hb
  have h1:=hs j o ho hj e he hbi
  rcases hy with rfl | hy
  ·exact h1
  ·exact ih e.on hon y h1 hy
end
set_option linter.unusedSimpArgs false
set_option linter.unusedVariables false
section
variable (P:Program) (L:List (Ent P)) (C:Cf) (ops:Array Oper)
def Run:St→List It→Prop
 | _,[]=>True
 | s,x :: T=>Good P L C ops s x∧Run (s.step x) T
def fin:St→List It→St
 | s,[]=>s
 | s,x :: T=>fin (s.step x) T
def apL(l:Nat→Bool):St→List It→St
 | s,[]=>s
 | s,x :: T=>apL l (cond (l x.i) (s.step x) s) T
structure Apart(x y:It):Prop where
 d:∀ d,x.d=some d→y.d ≠ some d
 xy:∀ d,x.d=some d→d ∉ looks ops y.i
 yx:∀ d,y.d=some d→d ∉ looks ops x.i
 e:clash x.e y.e=false
end
section
variable {P:Program} {L:List (Ent P)} {C:Cf} {D:Wd} {ops:Array Oper}
theorem hits_none{q:Nat}{c:Row}{e:Eff}(h:hits (some (q,c)) e=false):¬ rowsOf e q∧(e.j=true→isW q=false):=by
 unfold hits at h
 simp only [Bool.or_eq_false_iff] at h
 obtain ⟨⟨h1,h2⟩,h3⟩:=h
 refine ⟨?_,fun hj=>by rw [hj] at h3;simpa using h3⟩
 rintro (hc | ⟨c',hc⟩)
 ·rw [hc] at h2;simp [Nat.beq_refl] at h2
 ·rw [hc] at h1;simp [Nat.beq_refl] at h1
theorem Apart.parts{x y:It}(h:Apart ops x y):hits x.e.b y.e=false∧hits y.e.b x.e=false∧(x.e.g.isSome=true→y.e.j=false∧y.e.g=none)∧(y.e.g.isSome=true→x.e.j=false):=by
 have:=h.e
 unfold clash at this
 simp only [Bool.or_eq_false_iff,Bool.and_eq_false_iff] at this
 obtain ⟨⟨⟨h1,h2⟩,h3⟩,h4⟩:=this
 refine ⟨h1,h2,fun hg=>?_,fun hg=>?_⟩
 ·rcases h3 with h3 | h3
  ·rw [h3] at hg;cases hg
  ·exact ⟨h3.1,by simpa using h3.2⟩
 ·rcases h4 with h4 | h4
  ·rw [h4] at hg;cases hg
  ·exact h4
theorem Apart.row_xy{x y:It}(h:Apart ops x y){q:Nat}{c:Row}(hx:x.e.b=some (q,c)):¬ rowsOf y.e q∧(y.e.j=true→isW q=false):=by
 have:=h.parts.1
 rw [hx] at this
 exact hits_none this
theorem Apart.row_yx{x y:It}(h:Apart ops x y){q:Nat}{c:Row}(hy:y.e.b=some (q,c)):¬ rowsOf x.e q∧(x.e.j=true→isW q=false):=by
 have:=h.parts.2.1
 rw [hy] at this
 exact hits_none this
theorem Ag.refl(A B:Nat→Prop)(G:Prop)(s:St):Ag A B G s s:=⟨rfl,rfl,fun _ _=>rfl,fun _ _=>rfl,fun _=>⟨rfl,fun _ _=>rfl⟩⟩
theorem beq_ne{i j:Nat}(h:i ≠ j):Nat.beq i j=false:=by cases f:Nat.beq i j;rfl;exact absurd (Nat.eq_of_beq_eq_true f) h
theorem step_t(s:St)(x:It)(i:Nat)(h:x.d ≠ some i):(s.step x).t i=s.t i:=by
 unfold St.step St.app St.put
 cases hd:x.d with
 | none=>cases x.e.b <;> cases x.e.g <;> rfl
 | some d=>rw [hd] at h;simp only [];rw [beq_ne (fun e=>h (by rw [e]))];cases x.e.b <;> cases x.e.g <;> rfl
theorem step_m(s:St)(x:It)(q:Nat)(h:∀ c,x.e.b ≠ some (q,c)):(s.step x).m q=s.m q:=by
 unfold St.step St.app St.put St.row St.gh
 cases hb:x.e.b with
 | none=>cases x.d <;> cases x.e.g <;> rfl
 | some bc=>obtain ⟨b,c⟩:=bc;rw [hb] at h;simp only [];have:=beq_ne (fun e=>h c (by rw [e]):q ≠ b);cases x.d <;> cases x.e.g <;> simp only [this,cond_false]
theorem step_n(s:St)(x:It):(s.step x).n=s.n:=by unfold St.step St.app St.put St.row St.gh;cases x.d <;> cases x.e.b <;> cases x.e.g <;> rfl
theorem step_k(s:St)(x:It):(s.step x).k=s.k:=by unfold St.step St.app St.put St.row St.gh;cases x.d <;> cases x.e.b <;> cases x.e.g <;> rfl
theorem step_g(s:St)(x:It):(s.step x).g=x.e.g.getD s.g:=by unfold St.step St.app St.put St.row St.gh;cases x.d <;> cases x.e.b <;> cases x.e.g <;> rfl
theorem step_t'(s:St)(x:It)(i:Nat)(h:x.d=some i):(s.step x).t i=some x.e.v:=by
 unfold St.step St.app St.put
 rw [h];simp [Nat.beq_refl]
theorem step_m'(s:St)(x:It)(q:Nat)(c:Row)(h:x.e.b=some (q,c)):(s.step x).m q=some c:=by
 unfold St.step St.app St.put St.row St.gh
 rw [h];cases x.d <;> cases x.e.g <;> simp [Nat.beq_refl]
theorem Ag.both{A B:Nat→Prop}{G:Prop}{s s':St}(h:Ag A B G s s')(x:It):Ag A B G (s.step x) (s'.step x):=by
 have hm:∀ q,s'.m q=s.m q→(s'.step x).m q=(s.step x).m q:=fun q hq=>by
  by_cases hb:∃ c,x.e.b=some (q,c)
  ·obtain ⟨c,hb⟩:=hb
   rw [step_m' _ _ _ _ hb,step_m' _ _ _ _ hb]
  ·have hb':∀ c,x.e.b ≠ some (q,c):=fun c hc=>hb ⟨c,hc⟩
   rw [step_m _ _ _ hb',step_m _ _ _ hb',hq]
 refine ⟨by rw [step_n,step_n,h.n],by rw [step_k,step_k,h.k],fun i hi=>?_,fun q hq=>hm q (h.m q hq),fun hG=>⟨by rw [step_g,step_g,(h.g hG).1],fun q hq=>hm q ((h.g hG).2 q hq)⟩⟩
 by_cases hd:x.d=some i
 ·rw [step_t' _ _ _ hd,step_t' _ _ _ hd]
 ·rw [step_t _ _ _ hd,step_t _ _ _ hd,h.t i hi]
def Off(A B:Nat→Prop)(G:Prop)(x:It):Prop:=(∀ d,x.d=some d→¬ A d)∧(∀ q c,x.e.b=some (q,c)→¬ B q)∧(G→x.e.g=none∧∀ q c,x.e.b=some (q,c)→isW q=false)
theorem Ag.left{A B:Nat→Prop}{G:Prop}{s s':St}(h:Ag A B G s s')(x:It)(ho:Off A B G x):Ag A B G (s.step x) s':=by
 obtain ⟨hA,hB,hW⟩:=ho
 refine ⟨by rw [step_n,h.n],by rw [step_k,h.k],fun i hi=>?_,fun q hq=>?_,fun hG=>⟨by rw [step_g,(hW hG).1,(h.g hG).1];rfl,fun q hq=>?_⟩⟩
 ·rw [step_t _ _ _ (fun e=>hA i e hi),h.t i hi]
 ·rw [step_m _ _ _ (fun c e=>hB q c e hq),h.m q hq]
 ·rw [step_m _ _ _ (fun c e=>by have:=(hW hG).2 q c e;rw [hq] at this;cases this),(h.g hG).2 q hq]
theorem Ag.right{A B:Nat→Prop}{G:Prop}{s s':St}(h:Ag A B G s s')(x:It)(ho:Off A B G x):Ag A B G s (s'.step x):=by
 obtain ⟨hA,hB,hW⟩:=ho
 refine ⟨by rw [step_n,h.n],by rw [step_k,h.k],fun i hi=>?_,fun q hq=>?_,fun hG=>⟨by rw [step_g,(hW hG).1];exact (h.g hG).1,fun q hq=>?_⟩⟩
 ·rw [step_t _ _ _ (fun e=>hA i e hi),h.t i hi]
 ·rw [step_m _ _ _ (fun c e=>hB q c e hq),h.m q hq]
 ·rw [step_m _ _ _ (fun c e=>by have:=(hW hG).2 q c e;rw [hq] at this;cases this),(h.g hG).2 q hq]
theorem ag_front{A B:Nat→Prop}{G:Prop}{l:Nat→Bool}:∀ (T:List It) (s s':St),Ag A B G s s'→(∀ y ∈ T,l y.i=false→Off A B G y)→Ag A B G (fin s T) (apL l s' T)
 | [],_,_,h,_=>h
 | y :: T,s,s',h,hy=>by
  simp only [fin,apL]
  cases hl:l y.i
  ·exact ag_front T _ _ (h.left y (hy y (by simp) hl)) (fun z hz=>hy z (by simp [hz]))
  ·exact ag_front T _ _ (h.both y) (fun z hz=>hy z (by simp [hz]))
theorem ag_behind{A B:Nat→Prop}{G:Prop}{l:Nat→Bool}:∀ (T:List It) (s s':St),Ag A B G s s'→(∀ y ∈ T,l y.i=true→Off A B G y)→Ag A B G s (apL l s' T)
 | [],_,_,h,_=>h
 | y :: T,s,s',h,hy=>by
  simp only [apL]
  cases hl:l y.i
  ·exact ag_behind T _ _ h (fun z hz=>hy z (by simp [hz]))
  ·exact ag_behind T _ _ (h.right y (hy y (by simp) hl)) (fun z hz=>hy z (by simp [hz]))
theorem step_comm(s:St){x y:It}(h:Apart ops x y):(s.step x).step y=(s.step y).step x:=by
 have ht:∀ i,((s.step x).step y).t i=((s.step y).step x).t i:=fun i=>by
  by_cases hx:x.d=some i
  ·have hy:y.d ≠ some i:=h.d i hx
   rw [step_t _ _ _ hy,step_t' _ _ _ hx,step_t' _ _ _ hx]
  ·by_cases hy:y.d=some i
   ·rw [step_t' _ _ _ hy,step_t _ _ _ hx,step_t' _ _ _ hy]
   ·rw [step_t _ _ _ hy,step_t _ _ _ hx,step_t _ _ _ hx,step_t _ _ _ hy]
 have hm:∀ q,((s.step x).step y).m q=((s.step y).step x).m q:=fun q=>by
  by_cases hx:∃ c,x.e.b=some (q,c)
  ·obtain ⟨c,hx⟩:=hx
   have hy:∀ c,y.e.b ≠ some (q,c):=fun c' e=>(h.row_xy hx).1 (.inr ⟨c',e⟩)
   rw [step_m _ _ _ hy,step_m' _ _ _ _ hx,step_m' _ _ _ _ hx]
  ·have hx':∀ c,x.e.b ≠ some (q,c):=fun c e=>hx ⟨c,e⟩
   by_cases hy:∃ c,y.e.b=some (q,c)
   ·obtain ⟨c,hy⟩:=hy
    rw [step_m' _ _ _ _ hy,step_m _ _ _ hx',step_m' _ _ _ _ hy]
   ·have hy':∀ c,y.e.b ≠ some (q,c):=fun c e=>hy ⟨c,e⟩
    rw [step_m _ _ _ hy',step_m _ _ _ hx',step_m _ _ _ hx',step_m _ _ _ hy']
 have hn:((s.step x).step y).n=((s.step y).step x).n:=by simp only [step_n]
 have hk:((s.step x).step y).k=((s.step y).step x).k:=by simp only [step_k]
 have hg:((s.step x).step y).g=((s.step y).step x).g:=by
  simp only [step_g]
  cases hx:x.e.g with
  | none=>rfl
  | some g=>rw [(h.parts.2.2.1 (by rw [hx];rfl)).2];rfl
 revert ht hm hn hk hg
 generalize (s.step x).step y=p
 generalize (s.step y).step x=q
 intro ht hm hn hk hg
 obtain ⟨pn,pk,pt,pm,pg⟩:=p
 obtain ⟨qn,qk,qt,qm,qg⟩:=q
 simp only at ht hm hn hk hg
 rw [funext ht,funext hm,hn,hk,hg]
theorem apL_step{l:Nat→Bool}{x:It}:∀ (T:List It) (s:St),(∀ y ∈ T,l y.i=true→Apart ops x y)→apL l (s.step x) T=(apL l s T).step x
 | [],_,_=>rfl
 | y :: T,s,h=>by
  simp only [apL]
  cases hl:l y.i
  ·exact apL_step T s (fun z hz=>h z (by simp [hz]))
  ·simp only [cond_true]
   rw [step_comm s (h y (by simp) hl)]
   exact apL_step T _ (fun z hz=>h z (by simp [hz]))
theorem apL_same{l l':Nat→Bool}:∀ (T:List It) (s:St),(∀ y ∈ T,l' y.i=l y.i)→apL l' s T=apL l s T
 | [],_,_=>rfl
 | y :: T,s,h=>by simp only [apL];rw [h y (by simp)];exact apL_same T _ (fun z hz=>h z (by simp [hz]))
theorem apL_append{l:Nat→Bool}:∀ (T U:List It) (s:St),apL l s (T ++ U)=apL l (apL l s T) U
 | [],_,_=>rfl
 | y :: T,U,s=>apL_append T U _
theorem apL_all{l:Nat→Bool}:∀ (T:List It) (s:St),(∀ y ∈ T,l y.i=true)→apL l s T=fin s T
 | [],_,_=>rfl
 | y :: T,s,h=>by simp only [apL,fin];rw [h y (by simp)];exact apL_all T _ (fun z hz=>h z (by simp [hz]))
theorem apL_none{l:Nat→Bool}:∀ (T:List It) (s:St),(∀ y ∈ T,l y.i=false)→apL l s T=s
 | [],_,_=>rfl
 | y :: T,s,h=>by simp only [apL];rw [h y (by simp)];exact apL_none T _ (fun z hz=>h z (by simp [hz]))
theorem run_append:∀ (T U:List It) (s:St),Run P L C ops s (T ++ U)→Run P L C ops (fin s T) U
 | [],_,_,h=>h
 | _ :: T,U,_,h=>run_append T U _ h.2
def left(listed:Array Bool):Nat:=listed.toList.count false
theorem left_set(listed:Array Bool)(i:Nat)(h:listed.getD i true=false):left (listed.setIfInBounds i true) + 1=left listed:=by
 have hi:listed.toList[i]? = some false:=by
  have:listed[i]? = some false:=by
   rw [Array.getD_eq_getD_getElem?] at h
   cases hq:listed[i]? with
   | none=>simp [hq] at h
   | some b=>simp [hq] at h;rw [h]
  simpa using this
 unfold left
 rw [Array.toList_setIfInBounds]
 clear h
 generalize listed.toList=l at hi
 induction l generalizing i with
 | nil=>simp at hi
 | cons b l ih=>
  cases i with
  | zero=>simp at hi;subst hi;simp
  | succ i=>simp only [List.set_cons_succ,List.count_cons];have:=ih i (by simpa using hi);omega
theorem any_ok(hC:WOk P D C)(hE:edgesOk ops=true)(s0:St)(T:List It)(hT:T.map (·.i)=List.range ops.size)(hrun:Run P L C ops s0 T)
  (hpw:T.Pairwise fun x y=>bef ops y.i x.i=false→Apart ops x y) {Q:Exit→Act→World→Prop}
  (hQ:∀ r a w,Rel D r (fin s0 T) a w→Q .normal a w) :
  ∀ (fuel:Nat) (listed:Array Bool) (r:Nat→Nat × Nat) (a:Act) (w:World),listed.size=ops.size→Shut ops listed→left listed≤fuel →
   Rel D r (apL (fun i=>listed.getD i false) s0 T) a w→wpAny P .any ops Q fuel listed a w:=by
 have hmem:∀ y ∈ T,y.i < ops.size:=fun y hy=>by
  have:y.i ∈ T.map (·.i):=List.mem_map.2 ⟨y,hy,rfl⟩
  rw [hT] at this;simpa using this
 have hdone:∀ (listed:Array Bool) (r:Nat→Nat × Nat) (a:Act) (w:World),listed.size=ops.size→Shut ops listed→Region.ready .any ops listed = [] →
   Rel D r (apL (fun i=>listed.getD i false) s0 T) a w→Q .normal a w:=by
  intro listed r a w hs hsh hr hR
  have hall:∀ j,j < ops.size→listed.getD j false=true:=by
   intro j
   induction j using Nat.strongRecOn with
   | _ j ih=>
    intro hj
    refine Classical.byContradiction fun hno=>?_
    have hjr:j ∈ Region.ready .any ops listed:=by
     refine mem_ready.2 ⟨?_,ops[j],by simp [hj],fun e he hb=>?_⟩
     ·cases hq:listed.getD j true
      ·rfl
      ·exfalso;apply hno
       rw [Array.getD_eq_getD_getElem?] at hq ⊢
       rw [Array.getElem?_eq_getElem (by omega)] at hq ⊢
       exact hq
     ·have h1:=List.all_eq_true.1 hE j (by simpa using hj)
      simp only [Array.getElem?_eq_getElem hj] at h1
      have h2:=List.all_eq_true.1 h1 e (by simpa using he)
      simp [hb,Nat.blt_eq] at h2
      exact ih e.on h2 (by omega)
    rw [hr] at hjr;cases hjr
  rw [apL_all T s0 (fun y hy=>hall y.i (hmem y hy))] at hR
  exact hQ r a w hR
 intro fuel
 induction fuel with
 | zero=>
  intro listed r a w hs hsh hl hR
  have hr:Region.ready .any ops listed = []:=by
   refine List.eq_nil_iff_forall_not_mem.2 fun j hj=>?_
   have h0:=(mem_ready.1 hj).1
   have:=left_set listed j h0
   omega
  exact ⟨hr,hdone listed r a w hs hsh hr hR⟩
 | succ fuel ih=>
  intro listed r a w hs hsh hl hR
  refine ⟨fun hr=>hdone listed r a w hs hsh hr hR,fun i hi=>?_⟩
  obtain ⟨hun,o,ho,hedge⟩:=mem_ready.1 hi
  have hilt:i < ops.size:=(Array.getElem?_eq_some_iff.1 ho).1
  obtain ⟨x,hx,rfl⟩:∃ x ∈ T,x.i=i:=by
   have:i ∈ T.map (·.i):=by rw [hT];simpa using hilt
   obtain ⟨x,hx,e⟩:=List.mem_map.1 this
   exact ⟨x,hx,e⟩
  obtain ⟨T1,T2,rfl⟩:=List.append_of_mem hx
  have hunf:listed.getD x.i false=false:=by
   rw [Array.getD_eq_getD_getElem?] at hun ⊢
   rw [Array.getElem?_eq_getElem (by omega)] at hun ⊢
   exact hun
  have hnd:((T1 ++ x :: T2).map (·.i)).Nodup:=by rw [hT];exact List.nodup_range
  have hne1:∀ y ∈ T1,y.i ≠ x.i:=fun y hy e=>by
   rw [List.map_append,List.nodup_append] at hnd
   exact hnd.2.2 y.i (List.mem_map.2 ⟨y,hy,rfl⟩) x.i (by simp) e
  have hne2:∀ y ∈ T2,y.i ≠ x.i:=fun y hy e=>by
   rw [List.map_append,List.nodup_append,List.map_cons,List.nodup_cons] at hnd
   exact hnd.2.1.1 (List.mem_map.2 ⟨y,hy,e⟩)
  rw [List.pairwise_append,List.pairwise_cons] at hpw
  obtain ⟨_,⟨hp2,_⟩,hp1⟩:=hpw
  -- whoever comes before it is listed
  have hbx:∀ y,bef ops x.i y=true→listed.getD y false=true:=fun y hy=>by
   obtain ⟨o',ho',e,he,hb,_,h'⟩:=bef_edge hE hy
   rw [ho] at ho'
   cases ho'
   have h1:=hedge e he hb
   rcases h' with rfl | h'
   ·exact h1
   ·exact hsh.bef hE e.on y h1 h'
  have hfront:∀ y ∈ T1,listed.getD y.i false=false→Apart ops y x:=fun y hy hl=>by
   refine hp1 y hy x (by simp) ?_
   cases hb:bef ops x.i y.i
   ·rfl
   ·rw [hbx y.i hb] at hl;cases hl
  have hbehind:∀ y ∈ T2,listed.getD y.i false=true→Apart ops x y:=fun y hy hl=>by
   refine hp2 y hy ?_
   cases hb:bef ops y.i x.i
   ·rfl
   ·rw [hsh.bef hE y.i x.i hl hb] at hunf;cases hunf
  have hgood:Good P L C ops (fin s0 T1) x:=(run_append T1 _ s0 hrun).1
  have hag:Ag (fun t=>t ∈ looks ops x.i) (rowsOf x.e) (x.e.j=true) (fin s0 T1) (apL (fun i=>listed.getD i false) s0 (T1 ++ x :: T2)):=by
   rw [apL_append]
   simp only [apL,hunf,cond_false]
   refine ag_behind T2 _ _ (ag_front T1 _ _ (Ag.refl _ _ _ _) fun y hy hl=>?_) fun y hy hl=>?_
   ·have h:=hfront y hy hl
    refine ⟨fun d hd=>h.xy d hd,fun q c hb=>(h.row_xy hb).1,fun hj=>⟨?_,fun q c hb=>(h.row_xy hb).2 hj⟩⟩
    cases hg:y.e.g with
    | none=>rfl
    | some g=>have:=(h.parts.2.2.1 (by rw [hg];rfl)).1;rw [hj] at this;cases this
   ·have h:=hbehind y hy hl
    refine ⟨fun d hd=>h.yx d hd,fun q c hb=>(h.row_yx hb).1,fun hj=>⟨?_,fun q c hb=>(h.row_yx hb).2 hj⟩⟩
    cases hg:y.e.g with
    | none=>rfl
    | some g=>have:=h.parts.2.2.2 (by rw [hg];rfl);rw [hj] at this;cases this
  have hgood':=good_ag hC hag (fun _ h=>h) (fun _ h=>h) (fun h=>h) hgood
  refine op_step hC hR hgood' fun r' a' w' hR'=>?_
  refine ih (listed.setIfInBounds x.i true) r' a' w' (by simpa using hs) ?_ (by have:=left_set listed x.i hun;omega) ?_
  ·intro j oj hoj hj e he hb
   by_cases hji:j=x.i
   ·subst hji
    rw [ho] at hoj;cases hoj
    exact getD_set_true (hedge e he hb)
   ·rw [getD_set_ne false (Ne.symm hji)] at hj
    exact getD_set_true (hsh j oj hoj hj e he hb)
  ·have hset:∀ y,y ≠ x.i→(listed.setIfInBounds x.i true).getD y false=listed.getD y false:=fun y hy=>getD_set_ne false (Ne.symm hy)
   have hself:(listed.setIfInBounds x.i true).getD x.i false=true:=by
    rw [Array.getD_eq_getD_getElem?,Array.getElem?_setIfInBounds_self_of_lt (by omega)];rfl
   have e1:apL (fun i=>(listed.setIfInBounds x.i true).getD i false) s0 (T1 ++ x :: T2)=(apL (fun i=>listed.getD i false) s0 (T1 ++ x :: T2)).step x:=by
    rw [apL_append,apL_append]
    simp only [apL,hunf,hself,cond_false,cond_true]
    rw [apL_same (l:=fun i=>listed.getD i false) T1 s0 (fun y hy=>hset y.i (hne1 y hy)),apL_same (l:=fun i=>listed.getD i false) T2 _ (fun y hy=>hset y.i (hne2 y hy))]
    exact apL_step T2 _ hbehind
   rw [e1];exact hR'
end
end Go.Proofs.YteimojoicfjdjaaGreat.Sx
