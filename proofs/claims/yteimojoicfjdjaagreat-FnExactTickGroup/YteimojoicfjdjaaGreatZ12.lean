/- Parts of the proof: SxH. -/
import Derived.Test.YteimojoicfjdjaaGreatZ11
namespace Go.Proofs.YteimojoicfjdjaaGreat.Sx
open Go.RowKit Pl
set_option linter.unusedSimpArgs false
set_option linter.unusedVariables false
def andO(p:Option Prop)(q:Prop):Prop:=
 match p with
 | none=>q
 | some p=>p∧q
def fixG(ops:Array Oper)(o:Oper)(s:St)(b:Bool):St:=
 match gslot ops o with
 | none=>s
 | some (t,want)=>match s.t t with
  | some (.tuple _)=>s
  | _=>s.put (some t) (.bool (cond b want (!want)))
def fixC(c:Operand)(s:St)(b:Bool):St:=
 match c with
 | .tmp t=>s.put (some t) (.bool b)
 | _=>s
def chkD(ops:Array Oper)(i:Nat)(e:Eff)(lg:List (Nat × Eff)):Bool:=lg.all fun je=>bef ops i je.1 || !clash je.2 e
def nameL:List Value→(List Value→Prop)→Prop
 | [],K=>K []
 | .int .i64 n :: l,K=>∀ x,x=n→nameL l fun l=>K (.int .i64 x :: l)
 | .bool b :: l,K=>∀ x,x=b→nameL l fun l=>K (.bool x :: l)
 | v :: l,K=>nameL l fun l=>K (v :: l)
def nameV:Value→(Value→Prop)→Prop
 | .int .i64 n,K=>∀ x,x=n→K (.int .i64 x)
 | .bool b,K=>∀ x,x=b→K (.bool x)
 | .agg cs,K=>nameL cs.toList fun l=>K (.agg l.toArray)
 | v,K=>K v
theorem nameL_ok:∀ (l:List Value) (K:List Value→Prop),nameL l K→K l
 | [],K,h=>h
 | v :: l,K,h=>by
  have gen:nameL l (fun l=>K (v :: l))→K (v :: l):=nameL_ok l fun l=>K (v :: l)
  cases v with
  | int k n=>cases k <;> first | exact gen (h _ rfl) | exact gen h
  | bool b=>exact gen (h _ rfl)
  | _=>exact gen h
theorem nameV_ok{v:Value}{K:Value→Prop}(h:nameV v K):K v:=by
 unfold nameV at h
 split at h
 ·exact h _ rfl
 ·exact h _ rfl
 ·exact nameL_ok _ _ h
 ·exact h
def Eff.wv(e:Eff)(v:Value):Eff:=⟨e.p,v,e.b,e.c,e.j,e.g⟩
def nmd(C:Cf)(o:Op):Bool:=
 match o with
 | .call _=>C.nm
 | _=>false
section
variable (P:Program) (L:List (Ent P)) (C:Cf)
def rx(ops:Array Oper)(chk:Nat→Eff→List (Nat × Eff)→Bool):List Nat→St→List (Nat × Eff)→(St→Prop)→Prop
 | [],s,_,K=>K s
 | i :: is,s,lg,K=>
  match ops[i]? with
  | none=>False
  | some o=>
   match gdv ops o s with
   | none=>False
   | some b=>
    cond b
     (match eff P L C o (fixG ops o s true) with
     | none=>False
     | some e=>
      match chk i e lg with
      | true=>andO e.p (match nmd C o.op with
       | false=>rx ops chk is ((fixG ops o s true).app o.dst e) ((i,e) :: lg) K
       | true=>nameV e.v fun v=>rx ops chk is ((fixG ops o s true).app o.dst (e.wv v)) ((i,(e.wv v)) :: lg) K)
      | false=>False)
     (match fits o.dst s.n with
     | true=>rx ops chk is ((fixG ops o s false).put o.dst undef) lg K
     | false=>False)
def rb(ops:Array Oper):List Nat→St→(St→Prop)→Prop
 | [],s,K=>K s
 | i :: is,s,K=>
  match (ops[i]?).bind fun o=>(big0 P C o s).map fun q=>(o.dst,q) with
  | some (d,p,v,g,m)=>andO p (rb ops is ((s.win g m).put d v) K)
  | none=>rx P L C ops (fun _ _ _=>true) [i] s [] fun s'=>rb ops is s' K
def lx(f:St→(Exit→St→Prop)→Prop):Nat→St→(Exit→St→Prop)→Prop
 | 0,_,_=>False
 | n + 1,s,K=>f ⟨s.n,s.k + 1,s.t,s.m,s.g⟩ fun e s'=>
  match e with
  | .normal=>lx f n s' K
  | e=>K e s'
def cx:Code→St→(Exit→St→Prop)→Prop
 | .skip,s,K=>K .normal s
 | .label _,s,K=>K .normal s
 | .region _ ops draw,s,K=>
  match draw with
  | true=>
   match edgesOk ops && tmpsOk ops with
   | true=>rx P L C ops (chkD ops) (List.range ops.size) s [] (K .normal)
   | false=>False
  | false=>
   match C.big with
   | []=>rx P L C ops (fun _ _ _=>true) (List.range ops.size) s [] (K .normal)
   | _ :: _=>rb P L C ops (List.range ops.size) s (K .normal)
 | .seq a b,s,K=>cx a s fun e s'=>
  match e with
  | .normal=>cx b s' K
  | e=>K e s'
 | .cond c x y,s,K=>
  match s.ev c with
  | some (.bool b)=>cond b (cx x (fixC c s true) K) (cx y (fixC c s false) K)
  | _=>False
 | .block id c,s,K=>cx c s fun e s'=>
  match e with
  | .exit i=>cond (Nat.beq i id) (K .normal s') (K (.exit i) s')
  | e=>K e s'
 | .loop c,s,K=>lx (cx c) 64 s K
 | .exit id,s,K=>K (.exit id) s
 | .scope c,s,K=>cx c s fun e s'=>
  match e with
  | .goto _=>False
  | e=>K e s'
 | .ret,s,K=>K .ret s
 | .goto l,s,K=>K (.goto l) s
 | _,_,_=>False
def cxl:Code→Nat→St→(Exit→St→Prop)→Prop
 | .seq a b,l,s,K=>
  match findLabel a l with
  | some _=>cxl a l s fun e s'=>
   match e with
   | .normal=>cx P L C b s' K
   | e=>K e s'
  | none=>cxl b l s K
 | .label l',l,s,K=>cond (l' == l) (K .normal s) False
 | _,_,_,_=>False
def scl(c:Code)(K:Exit→St→Prop):Nat→Exit→St→Prop
 | 0,e,s=>match e with
  | .goto _=>False
  | e=>K e s
 | n + 1,e,s=>match e with
  | .goto l=>cxl P L C c l s (scl c K n)
  | e=>K e s
def ct:Code→St→(Exit→St→Prop)→Prop
 | .scope c,s,K=>cx P L C c s (scl P L C c K 6)
 | c,s,K=>cx P L C c s K
def resL(s:St):ResultVar→Option Value
 | .tmp t=>match s.t t with
  | some v=>cond (fw v) (some v) none
  | none=>none
 | .cell t T=>match s.t t with
  | some a=>match addrL a with
   | some (b,o)=>match s.m b with
    | some (cs,_)=>match loadL P T cs o with
     | some v=>cond (fw v) (some v) none
     | none=>none
    | none=>none
   | none=>none
  | none=>none
def ress(s:St):List ResultVar→Option (List Value)
 | []=>some []
 | x :: l=>match resL P s x with
  | some v=>match ress s l with
   | some vs=>some (v :: vs)
   | none=>none
  | none=>none
def resV:List Value→Value
 | [v]=>v
 | vs=>.tuple vs.toArray
def okb1(m:Nat→Option Row):Value→Bool
 | .pointer (some a)=>(m a.block).isSome
 | .slice (some a) _ _=>(m a.block).isSome
 | _=>true
def okb(m:Nat→Option Row):Value→Bool
 | .agg cs=>cs.toList.all (okb1 m)
 | v=>okb1 m v
def init(n:Nat)(args:List Value)(m:Nat→Option Row)(g:List Pe):St:=⟨n,0,fun i=>cond (Nat.blt i n) (some (args.getD i undef)) none,m,g⟩
def goesW(fn:Func)(args:List Value)(m:Nat→Option Row)(g:List Pe)(Post:List Value→St→Prop):Prop:=
 match fn.body with
 | none=>False
 | some c=>
  match Nat.ble args.length fn.ntmps && args.all (fun v=>okb m v) with
  | false=>False
  | true=>ct P L C c (init fn.ntmps args m g) fun e s=>
   match e with
   | .ret | .normal=>match ress P s fn.results.toList with
    | some vs=>Post vs s
    | none=>False
   | _=>False
def c0:Cf:=⟨[],fun _ _ _=>none,false,[]⟩
def goes(fn:Func)(args:List Value)(v0:Value):Prop:=
 match args.all flat with
 | false=>False
 | true=>goesW P L c0 fn args (fun _=>none) [] fun vs _=>
  match vs.all flat with
  | true=>resV vs=v0
  | false=>False
end
section
variable {P:Program} {L:List (Ent P)} {C:Cf} {D:Wd}
theorem put_same(s:St)(t:Nat)(v:Value)(h:s.t t=some v):s.put (some t) v=s:=by
 obtain ⟨n,k,f,m,g⟩:=s
 simp only [St.put]
 congr 1
 funext j
 cases e:Nat.beq j t
 ·rfl
 ·rw [Nat.eq_of_beq_eq_true e];exact h.symm
theorem fixG_same{ops:Array Oper}{o:Oper}{s:St}{b:Bool}(h:gdv ops o s=some b):fixG ops o s b=s:=by
 unfold fixG gslot
 unfold gdv at h
 cases hq:o.guard with
 | none=>rfl
 | some jw=>
  obtain ⟨j,want⟩:=jw
  simp only [hq] at h
  cases ht:(ops[j]?).bind (·.dst) with
  | none=>simp [ht] at h
  | some t=>
   simp only [ht] at h
   cases hv:s.t t with
   | none=>simp [hv] at h
   | some v=>
    cases v <;> simp only [hv,reduceCtorEq,Option.some.injEq] at h
    case bool c=>
     subst h
     have:=put_same s t (.bool c) hv
     simp only [ht,Option.map_some,hv]
     exact (by cases c <;> cases want <;> exact this)
    case tuple c=>simp only [ht,Option.map_some,hv]
theorem fixC_same{c:Operand}{s:St}{b:Bool}(h:s.ev c=some (.bool b)):fixC c s b=s:=by
 unfold fixC
 cases c with
 | tmp t=>exact put_same s t _ h
 | _=>rfl
theorem rx_trace{ops:Array Oper}{chk:Nat→Eff→List (Nat × Eff)→Bool}{K:St→Prop}:∀ (is:List Nat) (s:St) (lg:List (Nat × Eff)),rx P L C ops chk is s lg K →
  ∃ T:List It,T.map (·.i)=is∧Run P L C ops s T∧K (fin s T)∧(chk=chkD ops →
   (T.Pairwise fun x y=>bef ops y.i x.i=false→clash x.e y.e=false)∧∀ y ∈ T,∀ je ∈ lg,bef ops y.i je.1=false→clash je.2 y.e=false)
 | [],s,lg,h=>⟨[],rfl,trivial,h,fun _=>⟨List.Pairwise.nil,by simp⟩⟩
 | i :: is,s,lg,h=>by
  simp only [rx] at h
  cases ho:ops[i]? with
  | none=>simp [ho] at h
  | some o=>
   simp only [ho] at h
   cases hg:gdv ops o s with
   | none=>simp [hg] at h
   | some b=>
    simp only [hg] at h
    cases b
    ·simp only [cond_false] at h
     rw [fixG_same hg] at h
     cases hf:fits o.dst s.n <;> simp only [hf] at h
     have e0:s.put o.dst undef=s.step ⟨i,o.dst,none'⟩:=rfl
     rw [e0] at h
     obtain ⟨T,h1,h2,h3,h4⟩:=rx_trace is _ lg h
     refine ⟨⟨i,o.dst,none'⟩ :: T,by simp [h1],⟨⟨o,ho,rfl,hf,.inl ⟨hg,rfl⟩⟩,h2⟩,h3,fun hc=>?_⟩
     obtain ⟨h5,h6⟩:=h4 hc
     refine ⟨List.pairwise_cons.2 ⟨fun y hy _=>?_,h5⟩,fun y hy je hje=>?_⟩
     ·simp only [clash,hits,none',Bool.false_or];cases y.e.b <;> cases y.e.g <;> simp
     ·rcases List.mem_cons.1 hy with rfl | hy
      ·intro _;simp only [clash,hits,none',Bool.or_false];cases je.2.b <;> cases je.2.g <;> simp
      ·exact h6 y hy je hje
    ·simp only [cond_true] at h
     rw [fixG_same hg] at h
     cases he:eff P L C o s with
     | none=>simp [he] at h
     | some e=>
      simp only [he] at h
      cases hk:chk i e lg <;> simp only [hk] at h
      have hn:(match nmd C o.op with
       | false=>rx P L C ops chk is (s.app o.dst e) ((i,e) :: lg) K
       | true=>nameV e.v fun v=>rx P L C ops chk is (s.app o.dst (e.wv v)) ((i,(e.wv v)) :: lg) K)→rx P L C ops chk is (s.app o.dst e) ((i,e) :: lg) K:=by
       intro hn
       cases hq:nmd C o.op <;> rw [hq] at hn
       ·exact hn
       ·exact nameV_ok (K:=fun v=>rx P L C ops chk is (s.app o.dst (e.wv v)) ((i,(e.wv v)) :: lg) K) hn
      have hp:(∀ q,e.p=some q→q)∧rx P L C ops chk is (s.step ⟨i,o.dst,e⟩) ((i,e) :: lg) K:=by
       unfold andO at h
       cases hq:e.p with
       | none=>rw [hq] at h;exact ⟨by simp,hn h⟩
       | some p=>rw [hq] at h;exact ⟨fun q hq'=>by cases hq';exact h.1,hn h.2⟩
      obtain ⟨T,h1,h2,h3,h4⟩:=rx_trace is _ _ hp.2
      have hf:fits o.dst s.n=true:=by
       unfold eff at he
       cases hf:fits o.dst s.n
       ·rw [hf] at he;simp at he
       ·rfl
      refine ⟨⟨i,o.dst,e⟩ :: T,by simp [h1],⟨⟨o,ho,rfl,hf,.inr ⟨hg,he,hp.1⟩⟩,h2⟩,h3,fun hc=>?_⟩
      obtain ⟨h5,h6⟩:=h4 hc
      refine ⟨List.pairwise_cons.2 ⟨fun y hy=>h6 y hy (i,e) (by simp),h5⟩,fun y hy je hje=>?_⟩
      rcases List.mem_cons.1 hy with rfl | hy
      ·intro hb
       subst hc
       have:=List.all_eq_true.1 hk je hje
       simp only [Bool.or_eq_true,Bool.not_eq_true'] at this
       exact this.resolve_left (by rw [hb];simp)
      ·exact h6 y hy je (by simp [hje])
theorem text_ok(hC:WOk P D C){ops:Array Oper}{Q:Exit→Act→World→Prop}:∀ (T:List It) (s:St),Run P L C ops s T→(∀ r a w,Rel D r (fin s T) a w→Q .normal a w) →
  ∀ r a w,Rel D r s a w→wpOps P ops Q (T.map (·.i)) a w
 | [],s,_,hQ,r,a,w,hR=>hQ r a w hR
 | x :: T,s,h,hQ,r,a,w,hR=>by
  simp only [List.map_cons]
  rw [wpOps_cons]
  exact op_step hC hR h.1 fun r' a' w' hR'=>text_ok hC T _ h.2 hQ r' a' w' hR'
theorem repl_false(n j:Nat):(Array.replicate n false).getD j false=false:=by
 rw [Array.getD_eq_getD_getElem?,Array.getElem?_replicate]
 split <;> rfl
theorem Rel.drew{r:Nat→Nat × Nat}{s:St}{a:Act}{w:World}(h:Rel D r s a w):Rel D r s a { w with drawn:=w.drawn + 1 }:=
 h.world ((Below.refl _ _).drew)
theorem win_ok{r:Nat→Nat × Nat}{s:St}{a:Act}{w w':World}(h:Rel D r s a w){g:List Pe}{m:Nat→Option Row}(hs:∀ q,isW q=true→(s.m q).isSome=true→(m q).isSome=true)(hK:D.K w w')(hJ:D.J g m w'):Rel D r (s.win g m) a w':=by
 have hn:∀ b,isW b=false→(s.win g m).m b=s.m b:=fun b hb=>by simp only [St.win,hb,cond_false]
 have hw:∀ b,isW b=true→(s.win g m).m b=m b:=fun b hb=>by simp only [St.win,hb,cond_true]
 have hm:∀ b,(s.m b).isSome=true→((s.win g m).m b).isSome=true:=fun b hb=>by
  cases e:isW b
  ·rw [hn b e];exact hb
  ·rw [hw b e];exact hs b e hb
 have hJ':D.J g (s.win g m).m w':=D.ext _ _ _ _ hw hJ
 obtain ⟨hks,hk⟩:=D.kK _ _ hK
 refine ⟨h.defers,h.size,h.tmp,fun i v hv=>okv_mono hm (h.tok i v hv),h.fix,fun b cs T hb hc hne=>?_,fun b c hb hc=>?_,fun b c hb hc=>?_,fun b cs T hc=>?_,fun b c x y hb hc hx hy e=>?_,Nat.le_trans h.big hks,hJ'⟩
 ·rw [hn b hb] at hc
  rw [(hk _ (h.size_lt hb hc) (h.own b _ hb hc).1).1];exact h.row b cs T hb hc hne
 ·rw [hn b hb] at hc;exact ⟨(hk _ (h.size_lt hb hc) (h.own b c hb hc).1).2,(h.own b c hb hc).2⟩
 ·rw [hn b hb] at hc;exact Nat.lt_of_lt_of_le (h.lt b c hb hc) hks
 ·cases e:isW b
  ·rw [hn b e] at hc;exact fun c hcc=>ok1_mono hm (h.rok b cs T hc c hcc)
  ·exact fun c hcc=>((D.cell _ _ _ _ _ _ hJ' e hc).2.1 c hcc).2
 ·rw [hn b hb] at hx;rw [hn c hc] at hy;exact h.inj b c x y hb hc hx hy e
theorem big_ok(hC:WOk P D C){r:Nat→Nat × Nat}{s:St}{a:Act}{w:World}(h:Rel D r s a w){o:Oper}{p:Option Prop}{v:Value}{g:List Pe}{m:Nat→Option Row}(he:big0 P C o s=some (p,v,g,m))(hp:∀ q,p=some q→q)
  {K:Act→World→Prop} {Q:Exit→Act→World→Prop} (hK:∀ r' a' w',Rel D r' ((s.win g m).put o.dst v) a' w'→K a' w'):o.guard=none∧o.wp P a w K Q:=by
 obtain ⟨dst,op,type,pos,after,guard⟩:=o
 unfold big0 at he
 cases op <;> cases guard <;> simp only [reduceCtorEq] at he
 rename_i c
 refine ⟨rfl,?_⟩
 cases hcb:callB C c with
 | none=>simp [hcb] at he
 | some e1=>
  simp only [hcb] at he
  cases hev:eva s c.args.toList with
  | none=>simp [hev] at he
  | some az=>
   simp only [hev] at he
   cases hsp:e1.sp s.g s.m az with
   | none=>simp [hsp] at he
   | some q=>
    obtain ⟨p',v',g',m'⟩:=q
    simp only [hsp] at he
    cases hf:fits dst s.n && flat v' && entersL P e1.f <;> rw [hf] at he <;> simp only [cond_false,cond_true,reduceCtorEq,Option.some.injEq,Prod.mk.injEq] at he
    obtain ⟨rfl,rfl,rfl,rfl⟩:=he
    obtain ⟨hf,hen⟩:=Bool.and_eq_true_iff.1 hf
    obtain ⟨hd,hf⟩:=Bool.and_eq_true_iff.1 hf
    unfold callB at hcb
    cases hcal:c.callee <;> simp only [hcal,reduceCtorEq] at hcb
    rename_i cv
    cases cv <;> simp only [reduceCtorEq] at hcb
    rename_i f
    obtain ⟨hef,hcalls⟩:=hC.big f e1 hcb
    rw [hef] at hen
    obtain ⟨hs,hc⟩:=hcalls _ _ _ _ _ _ _ hsp hp w h.big h.inv
    unfold Oper.wp
    rw [run_enter rfl hcal hen,Oper.upon_enter]
    have harg:c.args.map a.eval=(az.map (ren D.W)).toArray:=by
     apply Array.ext'
     rw [Array.toList_map,eva_eval h _ _ hev]
    rw [harg]
    refine hc.mono ?_
    rintro e' w' ⟨rfl,hJ,hkp⟩
    have:=hK r _ _ ((win_ok h hs hkp hJ).put dst v' hd (okv_flat hf))
    rwa [ren_flat hf] at this
theorem rb_ok(hC:WOk P D C){ops:Array Oper}{K:St→Prop}{Q:Exit→Act→World→Prop}:∀ (is:List Nat) (s:St),rb P L C ops is s K→(∀ s' r a w,K s'→Rel D r s' a w→Q .normal a w) →
  ∀ r a w,Rel D r s a w→wpOps P ops Q is a w
 | [],s,h,hQ,r,a,w,hR=>hQ s r a w h hR
 | i :: is,s,h,hQ,r,a,w,hR=>by
  simp only [rb] at h
  rw [wpOps_cons]
  cases hb:(ops[i]?).bind fun o=>(big0 P C o s).map fun q=>(o.dst,q) with
  | none=>
   rw [hb] at h
   obtain ⟨T,h1,h2,h3,_⟩:=rx_trace _ _ _ h
   obtain ⟨x,rfl⟩:∃ x,T = [x]:=by
    cases T with
    | nil=>simp at h1
    | cons x T=>cases T with
     | nil=>exact ⟨x,rfl⟩
     | cons y T=>simp at h1
   simp only [List.map_cons,List.map_nil,List.cons.injEq,and_true] at h1
   subst h1
   exact op_step hC hR h2.1 fun r' a' w' hR'=>rb_ok hC is _ h3 hQ r' a' w' hR'
  | some q=>
   rw [hb] at h
   obtain ⟨d,p,v,g,m⟩:=q
   obtain ⟨o,ho,h2⟩:=Option.bind_eq_some_iff.1 hb
   obtain ⟨q',hq,h3⟩:=Option.map_eq_some_iff.1 h2
   cases h3
   have hp:(∀ q,p=some q→q)∧rb P L C ops is ((s.win g m).put o.dst v) K:=by
    unfold andO at h
    cases hq:p with
    | none=>rw [hq] at h;exact ⟨by simp,h⟩
    | some p=>rw [hq] at h;exact ⟨fun q hq'=>by cases hq';exact h.1,h.2⟩
   obtain ⟨hg,hw⟩:=big_ok hC hR hq hp.1 (Q:=Q) (fun r' a' w' hR'=>rb_ok hC is _ hp.2 hQ r' a' w' hR')
   unfold wpOp
   simp only [ho]
   have hwt:Region.wanted o (yielded ops a.tmps)=true:=by unfold Region.wanted;rw [hg]
   rw [hwt]
   exact .inl hw
theorem region_ok(hm:P.follows .mixedOrders=true)(hC:WOk P D C){id:Nat}{ops:Array Oper}{draw:Bool}{s:St}{K:Exit→St→Prop}{Q:Exit→Act→World→Prop}
  (h:cx P L C (.region id ops draw) s K) (hQ:∀ e s' r a w,K e s'→Rel D r s' a w→Q e a w) (r:Nat→Nat × Nat) (a:Act) (w:World) (hR:Rel D r s a w):(Code.region id ops draw).wp P Q a w:=by
 simp only [cx] at h
 cases draw
 ·simp only [] at h
  cases hB:C.big with
  | nil=>
   rw [hB] at h
   obtain ⟨T,h1,h2,h3,_⟩:=rx_trace _ _ _ h
   refine wp_region ?_
   rw [← h1]
   exact text_ok hC T s h2 (fun r a w hR=>hQ _ _ r a w h3 hR) r a w hR
  | cons x l=>
   rw [hB] at h
   exact wp_region (rb_ok hC _ s h (fun s' r a w hK hR=>hQ _ _ r a w hK hR) r a w hR)
 ·simp only [] at h
  cases hk:edgesOk ops && tmpsOk ops <;> simp only [hk] at h
  obtain ⟨hE,hT⟩:=Bool.and_eq_true_iff.1 hk
  obtain ⟨T,h1,h2,h3,h4⟩:=rx_trace _ _ _ h
  obtain ⟨h5,_⟩:=h4 rfl
  have hgood:∀ (U:List It) (q:St),Run P L C ops q U→∀ x ∈ U,∃ o,ops[x.i]? = some o∧x.d=o.dst:=by
   intro U
   induction U with
   | nil=>intro q _ x hx;cases hx
   | cons y U ih=>
    intro q hU x hx
    rcases List.mem_cons.1 hx with rfl | hx
    ·obtain ⟨o,ho,hd,_⟩:=hU.1;exact ⟨o,ho,hd⟩
    ·exact ih _ hU.2 x hx
  have hlt:T.Pairwise fun x y=>x.i < y.i:=by
   have:(T.map (·.i)).Pairwise (· < ·):=by rw [h1];exact List.pairwise_lt_range
   exact List.pairwise_map.1 this
  have hpw:T.Pairwise fun x y=>bef ops y.i x.i=false→Apart ops x y:=by
   have hall:=h5.and hlt
   refine (List.Pairwise.and_mem.1 hall).imp ?_
   rintro x y ⟨hx,hy,hc,hxy⟩ hb
   obtain ⟨ox,hox,hdx⟩:=hgood T s h2 x hx
   obtain ⟨oy,hoy,hdy⟩:=hgood T s h2 y hy
   have hyl:y.i < ops.size:=(Array.getElem?_eq_some_iff.1 hoy).1
   have t1:=List.all_eq_true.1 (List.all_eq_true.1 hT y.i (by simpa using hyl)) x.i (by simpa using hxy)
   rw [hb,hox,hoy] at t1
   simp only [Bool.false_or] at t1
   obtain ⟨a1,a2,a3⟩:=Oper.apart_spec t1
   exact ⟨fun d hd=>by rw [hdy];exact a2 d (by rw [← hdx];exact hd),fun d hd=>by simp only [looks,hoy];exact a1 d (by rw [← hdx];exact hd),
    fun d hd=>by simp only [looks,hox];exact a3 d (by rw [← hdy];exact hd),hc hb⟩
  refine wp_region_any hm (any_ok hC hE s T h1 h2 hpw (fun r a w hR=>hQ _ _ r a w h3 hR) _ _ r a _ (by simp) ?_ ?_ ?_)
  ·intro j o hj hl
   rw [repl_false] at hl;cases hl
  ·have:left (Array.replicate ops.size false)=ops.size:=by simp [left]
   omega
  ·rw [apL_none T s (fun y hy=>repl_false _ _)]
   exact hR.drew
theorem cx_ok(hm:P.follows .mixedOrders=true)(hC:WOk P D C):∀ (c:Code) (s:St) (K:Exit→St→Prop) (Q:Exit→Act→World→Prop),cx P L C c s K →
  (∀ e s' r a w,K e s'→Rel D r s' a w→Q e a w)→∀ r a w,Rel D r s a w→c.wp P Q a w:=by
 intro c
 induction c with
 | skip=>exact fun s K Q h hQ r a w hR=>wp_skip (hQ _ _ r a w h hR)
 | label l=>exact fun s K Q h hQ r a w hR=>wp_label (hQ _ _ r a w h hR)
 | region id ops draw=>exact fun s K Q h hQ r a w hR=>region_ok hm hC h hQ r a w hR
 | seq x y ihx ihy=>
  intro s K Q h hQ r a w hR
  refine wp_seq (ihx s _ _ h ?_ r a w hR)
  intro e s' r' a' w' hK hR'
  cases e <;> first | exact ihy s' K Q hK hQ r' a' w' hR' | exact hQ _ _ _ _ _ hK hR'
 | cond c x y ihx ihy=>
  intro s K Q h hQ r a w hR
  simp only [cx] at h
  cases hv:s.ev c with
  | none=>simp [hv] at h
  | some v=>
   cases v <;> simp only [hv] at h
   rename_i b
   obtain ⟨h1,_⟩:=hR.ev hv
   refine wp_cond_split (t:=b) h1 (fun hb=>?_) (fun hb=>?_)
   ·subst hb;rw [fixC_same hv] at h;exact ihx s K Q h hQ r a w hR
   ·subst hb;rw [fixC_same hv] at h;exact ihy s K Q h hQ r a w hR
 | block id c ih=>
  intro s K Q h hQ r a w hR
  refine wp_block (ih s _ _ h ?_ r a w hR)
  intro e s' r' a' w' hK hR'
  cases e <;> try exact hQ _ _ _ _ _ hK hR'
  rename_i i
  simp only [Exit.inBlock]
  simp only [] at hK
  cases hb:Nat.beq i id
  ·rw [hb] at hK
   have hne:i ≠ id:=fun e=>by subst e;simp [Nat.beq_refl] at hb
   rw [if_neg hne]
   exact hQ _ _ _ _ _ hK hR'
  ·rw [hb] at hK
   rw [if_pos (Nat.eq_of_beq_eq_true hb)]
   exact hQ _ _ _ _ _ hK hR'
 | loop c ih=>
  intro s K Q h hQ r a w hR
  refine wp_loop_rounds 64 ?_
  simp only [cx] at h
  generalize 64=n at h
  induction n generalizing s r a w with
  | zero=>exact h.elim
  | succ n ihn=>
   rw [rounds_succ]
   simp only [lx] at h
   refine ih _ _ _ h ?_ r a w ⟨hR.defers,hR.size,hR.tmp,hR.tok,hR.fix,hR.row,hR.own,hR.lt,hR.rok,hR.inj,hR.big,hR.inv⟩
   intro e s' r' a' w' hK hR'
   cases e <;> first | exact ihn s' r' a' w' hR' hK | exact hQ _ _ _ _ _ hK hR'
 | exit id=>exact fun s K Q h hQ r a w hR=>wp_exit (hQ _ _ r a w h hR)
 | scope c ih=>
  intro s K Q h hQ r a w hR
  refine wp_scope_straight (ih s _ _ h ?_ r a w hR)
  intro e s' r' a' w' hK hR'
  cases e <;> first | exact hK.elim | exact hQ _ _ _ _ _ hK hR'
 | ret=>exact fun s K Q h hQ r a w hR=>wp_ret (hQ _ _ r a w h hR)
 | rangeFunc _ _ _ _=>exact fun s K Q h=>h.elim
 | goto l=>exact fun s K Q h hQ r a w hR=>wp_goto (hQ _ _ r a w h hR)
 | refuse _=>exact fun s K Q h=>h.elim
def scopeQ(P:Program)(c:Code)(Q:Exit→Act→World→Prop):Nat→Exit→Act→World→Prop
 | 0,e,a,w=>match e with
  | .goto _=>False
  | e=>Q e a w
 | n + 1,e,a,w=>match e with
  | .goto l=>∃ rest,findLabel c l=some rest∧rest.wp P (scopeQ P c Q n) a w
  | e=>Q e a w
theorem wp_scope_n{c:Code}{Q:Exit→Act→World→Prop}{a:Act}{w:World}(n:Nat)(h:c.wp P (scopeQ P c Q n) a w):(Code.scope c).wp P Q a w:=by
 intro b k cs
 have key:∀ n (r:Code) a w,r.wp P (scopeQ P c Q n) a w→∃ e a' w',Q e a' w'∧Arrives P (lone (b.at a (.code r :: .inScope c :: k)) cs w) b k cs e a' w':=by
  intro n
  induction n with
  | zero=>
   intro r a w hr
   obtain ⟨e,a₁,w₁,hq,harr⟩:=hr b (.inScope c :: k) cs
   cases e with
   | normal=>exact ⟨.normal,a₁,w₁,hq,Steps.trans harr (.one step_inScope)⟩
   | exit id=>exact ⟨.exit id,a₁,w₁,hq,fun k' hk=>harr k' (by simp [exitTo,hk])⟩
   | goto l'=>exact hq.elim
   | ret=>exact ⟨_,a₁,w₁,hq,harr⟩
   | panic ch=>exact ⟨_,a₁,w₁,hq,harr⟩
   | outgrown=>exact ⟨_,a₁,w₁,hq,harr⟩
  | succ n ih=>
   intro r a w hr
   obtain ⟨e,a₁,w₁,hq,harr⟩:=hr b (.inScope c :: k) cs
   cases e with
   | normal=>exact ⟨.normal,a₁,w₁,hq,Steps.trans harr (.one step_inScope)⟩
   | exit id=>exact ⟨.exit id,a₁,w₁,hq,fun k' hk=>harr k' (by simp [exitTo,hk])⟩
   | goto l'=>
    obtain ⟨rest,hf,hrest⟩:=hq
    have hg:gotoIn l' (.inScope c :: k)=some (.code rest :: .inScope c :: k):=by simp [gotoIn,hf]
    obtain ⟨e₂,a₂,w₂,hq₂,harr₂⟩:=ih _ _ _ hrest
    exact ⟨e₂,a₂,w₂,hq₂,.of_steps (harr _ hg) harr₂⟩
   | ret=>exact ⟨_,a₁,w₁,hq,harr⟩
   | panic ch=>exact ⟨_,a₁,w₁,hq,harr⟩
   | outgrown=>exact ⟨_,a₁,w₁,hq,harr⟩
 obtain ⟨e,a₁,w₁,hq,harr⟩:=key n c a w h
 exact ⟨e,a₁,w₁,hq,.of_steps (.one step_scope) harr⟩
theorem cxl_some{l:Nat}{K:Exit→St→Prop}:∀ (c:Code) (s:St) (K:Exit→St→Prop),cxl P L C c l s K→∃ rest,findLabel c l=some rest:=by
 intro c
 induction c with
 | seq x y ihx ihy=>
  intro s K h
  simp only [cxl] at h
  cases hx:findLabel x l with
  | some r=>exact ⟨.seq r y,by simp [findLabel,hx]⟩
  | none=>
   rw [hx] at h
   obtain ⟨r,hr⟩:=ihy _ _ h
   exact ⟨r,by simp [findLabel,hx,hr]⟩
 | label l'=>
  intro s K h
  simp only [cxl] at h
  cases hl:l' == l <;> rw [hl] at h
  ·exact h.elim
  ·exact ⟨.skip,by simp [findLabel,hl]⟩
 | _=>intro s K h;exact h.elim
theorem cxl_ok(hm:P.follows .mixedOrders=true)(hC:WOk P D C){l:Nat}:∀ (c rest:Code),findLabel c l=some rest→∀ (s:St) (K:Exit→St→Prop) (Q:Exit→Act→World→Prop),cxl P L C c l s K →
  (∀ e s' r a w,K e s'→Rel D r s' a w→Q e a w)→∀ r a w,Rel D r s a w→rest.wp P Q a w:=by
 intro c
 induction c with
 | seq x y ihx ihy=>
  intro rest hf s K Q h hQ r a w hR
  simp only [cxl] at h
  simp only [findLabel] at hf
  cases hx:findLabel x l with
  | some rx=>
   rw [hx] at h hf
   simp only [Option.some.injEq] at hf
   subst hf
   refine wp_seq (ihx _ hx s _ _ h ?_ r a w hR)
   intro e s' r' a' w' hK hR'
   cases e <;> first | exact cx_ok hm hC y s' K Q hK hQ r' a' w' hR' | exact hQ _ _ _ _ _ hK hR'
  | none=>
   rw [hx] at h hf
   exact ihy _ hf s K Q h hQ r a w hR
 | label l'=>
  intro rest hf s K Q h hQ r a w hR
  simp only [cxl] at h
  simp only [findLabel] at hf
  cases hl:l' == l <;> rw [hl] at h hf
  ·exact h.elim
  ·simp only [if_true,Option.some.injEq] at hf
   subst hf
   exact wp_skip (hQ _ _ r a w h hR)
 | _=>intro rest hf s K Q h;exact h.elim
theorem scl_ok(hm:P.follows .mixedOrders=true)(hC:WOk P D C){K:Exit→St→Prop}{Q:Exit→Act→World→Prop}(hQ:∀ e s' r a w,K e s'→Rel D r s' a w→Q e a w)(d:Code):∀ n e s' r' a' w',scl P L C d K n e s'→Rel D r' s' a' w'→scopeQ P d Q n e a' w':=by
 intro n
 induction n with
 | zero=>intro e s' r' a' w' hK hR';cases e <;> first | exact hK.elim | exact hQ _ _ _ _ _ hK hR'
 | succ n ih=>
  intro e s' r' a' w' hK hR'
  cases e with
  | goto l=>
   obtain ⟨rest,hf⟩:=cxl_some (K:=K) d s' _ hK
   exact ⟨rest,hf,cxl_ok hm hC d rest hf s' _ _ hK ih r' a' w' hR'⟩
  | _=>exact hQ _ _ _ _ _ hK hR'
theorem ct_ok(hm:P.follows .mixedOrders=true)(hC:WOk P D C)(c:Code)(s:St)(K:Exit→St→Prop)(Q:Exit→Act→World→Prop)(h:ct P L C c s K)
  (hQ:∀ e s' r a w,K e s'→Rel D r s' a w→Q e a w) (r:Nat→Nat × Nat) (a:Act) (w:World) (hR:Rel D r s a w):c.wp P Q a w:=by
 cases c with
 | scope d=>exact wp_scope_n 6 (cx_ok hm hC d s _ _ h (scl_ok hm hC hQ d 6) r a w hR)
 | _=>exact cx_ok hm hC _ s K Q h hQ r a w hR
def res1(P:Program)(a:Act):ResultVar→Sem Value
 | .tmp t=>pure (a.tmps.getD t undef)
 | .cell p t=>do loadVar t (← asAddr (a.tmps.getD p undef))
theorem ress_ok{r:Nat→Nat × Nat}{s:St}{a:Act}{w:World}(h:Rel D r s a w):∀ (l:List ResultVar) (vs:List Value),ress P s l=some vs →
  (l.mapM (res1 P a)).run P w=.ok (vs.map (ren D.W)) w
 | [],vs,hv=>by simp [ress] at hv;subst hv;simp
 | x :: l,vs,hv=>by
  simp only [ress] at hv
  cases hx:resL P s x with
  | none=>simp [hx] at hv
  | some v=>
   simp only [hx] at hv
   cases hl:ress P s l with
   | none=>simp [hl] at hv
   | some us=>
    simp only [hl,Option.some.injEq] at hv
    subst hv
    have ih:=ress_ok h l us hl
    have h1:(res1 P a x).run P w=.ok (ren D.W v) w:=by
     cases x with
     | tmp t=>
      simp only [resL] at hx
      cases ht:s.t t with
      | none=>simp [ht] at hx
      | some u=>
       simp only [ht] at hx
       cases hf:fw u <;> rw [hf] at hx <;> simp at hx
       subst hx
       have:=h.tmp t u ht
       rw [ren_win h.win hf] at this
       simp [res1,this]
     | cell t T=>
      simp only [resL] at hx
      cases ht:s.t t with
      | none=>simp [ht] at hx
      | some u=>
       simp only [ht] at hx
       cases ha:addrL u with
       | none=>simp [ha] at hx
       | some bo=>
        obtain ⟨b,o⟩:=bo
        simp only [ha] at hx
        cases hm:s.m b with
        | none=>simp [hm] at hx
        | some c=>
         obtain ⟨cs,U⟩:=c
         simp only [hm] at hx
         cases hl':loadL P T cs o with
         | none=>simp [hl'] at hx
         | some y=>
          simp only [hl'] at hx
          cases hf:fw y <;> rw [hf] at hx <;> simp at hx
          subst hx
          have h2:=h.tmp t u ht
          rw [addrL_some ha] at h2
          obtain ⟨h3,_⟩:=run_load_row (P:=P) h hm hl'
          rw [ren_win h.win hf] at h3
          simp [res1,h2,ren,ren1,asAddr,h3]
    rw [List.mapM_cons,Sem.run_bind,h1]
    simp only [Result.andThen_ok]
    rw [Sem.run_bind,ih]
    simp
theorem okb_ok{m:Nat→Option Row}{v:Value}(h:okb m v=true):okv m v:=by
 unfold okb at h
 have h1:∀ v,okb1 m v=true→ok1 m v:=fun v h=>by unfold okb1 at h;unfold ok1;split <;> simp_all
 split at h
 ·exact fun c hc=>h1 c (List.all_eq_true.1 h c hc)
 ·have:okv m v=ok1 m v:=by unfold okv;split <;> simp_all
  rw [this];exact h1 _ h
theorem runs_own(hm:P.follows .mixedOrders=true)(hC:WOk P D C){f:Nat}{fn:Func}(hf:P.funcs[f]? = some fn){args:List Value}{m:Nat→Option Row}{g:List Pe}{Post:List Value→St→Prop}{T:Prop}
  (hT:goesW P L C fn args m g Post=T) (h:T) (w:World) (hb:D.n0≤w.heap.size) (hF:∀ q,isF q=false→m q=none) (hrow:∀ b cs T,isW b=false→m b=some (cs,T)→cs ≠ []→w.heap[(D.W b).1]? = some (.cells (cs.map (ren1 D.W)).toArray T (0,0)))
  (hown:∀ b c,isW b=false→m b=some c→D.A w (D.W b).1∧(D.W b).2=0) (hlt:∀ b c,isW b=false→m b=some c→(D.W b).1 < w.heap.size) (hok:∀ b cs T,isW b=false→m b=some (cs,T)→∀ c ∈ cs,ok1 m c) (hinj:∀ b c x y,isW b=false→isW c=false→m b=some x→m c=some y→(D.W b).1=(D.W c).1→b=c) (hJ:D.J g m w) :
  Calls P f (args.map (ren D.W)).toArray w fun e w'=>∃ vs s r a',e=.returned (resV (vs.map (ren D.W)))∧Post vs s∧Rel D r s a' w':=by
 rw [← hT] at h
 unfold goesW at h
 cases hb':fn.body with
 | none=>simp [hb'] at h
 | some c=>
  simp only [hb'] at h
  cases hk:Nat.ble args.length fn.ntmps && args.all (fun v=>okb m v) <;> simp only [hk] at h
  obtain ⟨hk1,hk2⟩:=Bool.and_eq_true_iff.1 hk
  have hlen:args.length≤fn.ntmps:=Nat.le_of_ble_eq_true hk1
  have hfl:∀ i,okb m (args.getD i undef)=true:=fun i=>by
   rw [List.getD_eq_getElem?_getD]
   cases hq:args[i]? with
   | none=>rfl
   | some v=>exact List.all_eq_true.1 hk2 v (List.mem_of_getElem? hq)
  refine calls_of_wp hf hb' (ct_ok (D:=D) hm hC c _ _ _ h ?_ D.W _ w ?_)
  ·intro e s' r a w' hK hR
   have fin:(match ress P s' fn.results.toList with | some vs=>Post vs s' | none=>False)→a.defers = []∧∃ v,(results fn a.tmps).run P w'=.ok v w' ∧
     ((fun (e:Ending) (w':World)=>∃ vs s r a',e=.returned (resV (vs.map (ren D.W)))∧Post vs s∧Rel D r s a' w') (.returned v) w'):=by
    intro hK
    cases hr:ress P s' fn.results.toList with
    | none=>simp [hr] at hK
    | some vs=>
     simp only [hr] at hK
     refine ⟨hR.defers,resV (vs.map (ren D.W)),?_,vs,s',r,a,rfl,hK,hR⟩
     have:=ress_ok (P:=P) hR _ _ hr
     have hf:(fun x:ResultVar=>match x with | .tmp t=>(pure (a.tmps.getD t undef):Sem Value) | .cell p t=>do loadVar t (← asAddr (a.tmps.getD p undef)))=res1 P a:=by
      funext x;cases x <;> rfl
     unfold results
     rw [Array.mapM_eq_mapM_toList]
     generalize hvs:vs.map (ren D.W)=us at this
     have h2:(List.toArray <$> fn.results.toList.mapM (res1 P a)).run P w'=.ok us.toArray w':=by
      show (fn.results.toList.mapM (res1 P a) >>= fun x=>pure x.toArray).run P w'=_
      rw [Sem.run_bind,this];simp
     rw [Sem.run_bind]
     have h3:∀ g:Sem (Array Value),g=List.toArray <$> fn.results.toList.mapM (res1 P a)→g.run P w'=.ok us.toArray w':=fun g hg=>by rw [hg];exact h2
     rw [h3 _ (by rw [← hf];rfl)]
     simp only [Result.andThen_ok]
     cases us with
     | nil=>rfl
     | cons v vs=>cases vs <;> rfl
   cases e <;> first | exact hK.elim | exact fin hK
  ·refine ⟨rfl,by simp [init];omega,fun i v hv=>?_,fun i v hv=>?_,fun _ _=>rfl,fun b cs T hwb hb hn=>?_,fun b c hwb hb=>?_,fun b c hwb hb=>?_,fun b cs T hb=>?_,fun b c x y hwb hwc hb hc e=>?_,hb,hJ⟩
   ·simp only [init] at hv
    cases hi:Nat.blt i fn.ntmps <;> rw [hi] at hv <;> simp only [cond_false,cond_true,reduceCtorEq,Option.some.injEq] at hv
    subst hv
    have hlt:i < fn.ntmps:=by simpa [Nat.blt_eq] using hi
    rw [Array.getElem?_append]
    simp only [List.size_toArray,List.length_map]
    split
    ·rename_i h1;simp [List.getD_eq_getElem?_getD,h1]
    ·rename_i h1
     simp only [List.getD_eq_getElem?_getD,List.getElem?_eq_none (Nat.le_of_not_lt h1),Option.getD_none]
     rw [Array.getElem?_replicate,if_pos (by omega)]
     rfl
   ·simp only [init] at hv
    cases hi:Nat.blt i fn.ntmps <;> rw [hi] at hv <;> simp only [cond_false,cond_true,reduceCtorEq,Option.some.injEq] at hv
    subst hv
    exact okb_ok (hfl i)
   ·exact hrow b cs T hwb hb hn
   ·exact hown b c hwb hb
   ·exact hlt b c hwb hb
   ·cases hwb:isW b
    ·exact hok b cs T hwb hb
    ·exact fun c hc=>((D.cell _ _ _ _ _ _ hJ hwb hb).2.1 c hc).2
   ·exact hinj b c x y hwb hwc hb hc e
theorem runs_ok(hm:P.follows .mixedOrders=true)(hC:WOk P D C){f:Nat}{fn:Func}(hf:P.funcs[f]? = some fn){args:List Value}{m:Nat→Option Row}{g:List Pe}{Post:List Value→St→Prop}{T:Prop}
  (hT:goesW P L C fn args m g Post=T) (h:T) (w:World) (hb:D.n0≤w.heap.size) (hw:∀ q,isW q=false→m q=none) (hJ:D.J g m w) :
  Calls P f (args.map (ren D.W)).toArray w fun e w'=>∃ vs s,e=.returned (resV (vs.map (ren D.W)))∧Post vs s∧D.J s.g s.m w'∧(∀ q,isW q=true→True):=by
 refine (runs_own hm hC hf hT h w hb (fun q hq=>hw q (isW_not hq)) (fun b cs T hwb hb=>?_) (fun b c hwb hb=>?_) (fun b c hwb hb=>?_) (fun b cs T hwb hb=>?_) (fun b c x y hwb _ hb=>?_) hJ).mono ?_
 ·rw [hw b hwb] at hb;cases hb
 ·rw [hw b hwb] at hb;cases hb
 ·rw [hw b hwb] at hb;cases hb
 ·rw [hw b hwb] at hb;cases hb
 ·rw [hw b hwb] at hb;cases hb
 ·rintro e w' ⟨vs,s,r,a',rfl,hp,hR⟩
  exact ⟨vs,s,rfl,hp,hR.inv,fun _ _=>trivial⟩
def d0(w0:World):Wd:=Wd0.wd {
 n0:=w0.heap.size
 W:=fun _=>(0,0)
 J:=fun _ m w=>Below w0.heap.size w0 w∧∀ q,isW q=true→m q=none
 ext:=fun _ m m' w h ⟨a,b⟩=>⟨a,fun q hq=>by rw [h q hq];exact b q hq⟩
 below:=fun _ m w w' _ hb ⟨a,b⟩=>⟨a.trans hb,b⟩
 cell:=fun _ m w q cs T ⟨_,b⟩ hq hm=>by rw [b q hq] at hm;cases hm
 write:=fun _ m w q cs T j u v ⟨_,b⟩ hq hm=>by rw [b q (rw_w hq)] at hm;cases hm }
theorem calls_ok(hm:P.follows .mixedOrders=true){f:Nat}{fn:Func}(hf:P.funcs[f]? = some fn){args:List Value}{v0:Value}{T:Prop}(hT:goes P L fn args v0=T)(h:T)(w:World) :
  Calls P f args.toArray w fun e w'=>e=.returned v0∧Below w.heap.size w w':=by
 rw [← hT] at h
 unfold goes at h
 cases hk:args.all flat <;> simp only [hk] at h
 have hid:∀ l:List Value,l.all flat=true→l.map (ren (d0 w).W)=l:=fun l hl=>by
  conv=>rhs;rw [← List.map_id l]
  exact List.map_congr_left fun v hv=>ren_flat (List.all_eq_true.1 hl v hv)
 have hC:WOk P (d0 w) c0:=⟨fun f e he=>by simp [c0,lookW] at he,fun f e he=>by simp [c0,lookW] at he,fun T x i p v hv=>by simp [c0] at hv,fun f e he=>by simp [c0,lookB] at he⟩
 have:=runs_ok (D:=d0 w) hm hC hf rfl h w (Nat.le_refl _) (fun _ _=>rfl) ⟨Below.refl _ _,fun _ _=>rfl⟩
 rw [hid args hk] at this
 refine this.mono ?_
 rintro e w' ⟨vs,s,rfl,hp,⟨hb,_⟩,_⟩
 cases hv:vs.all flat <;> simp only [hv] at hp
 rw [hid vs hv,hp]
 exact ⟨rfl,hb⟩
end
end Go.Proofs.YteimojoicfjdjaaGreat.Sx
