/- Parts of the proof: Tk. -/
import Derived.Test.YteimojoicfjdjaaGreatProg
import Derived.WalkKit
import Derived.Below
import Derived.Deep.RegionHeld3
namespace Go.Proofs.YteimojoicfjdjaaGreat
open Go.RowKit
set_option linter.unusedVariables false
theorem tkz{P:Program}{ops:Array Oper}{Q:Exit→Act→World→Prop}{md:Region.Mode}{S:World→Prop}(i:Nat){oi:Oper}{v:Value}{fuel:Nat}{listed l':Array Bool}{a a':Act}{w:World}(hi:ops[i]? = some oi)
  (h:wpAnyH P md ops Q S fuel l' a' w)
  (hs:Region.noSelect ops=true:=by kernel_rfl) (hf:Region.free md ops listed i=true:=by kernel_rfl) (hr:(Region.ready md ops listed).contains i=true:=by kernel_rfl)
  (hQ:∀ c a w,Q (.panic c) (a.put oi.dst v) w→Q (.panic c) a w:=by exact fun _ _ _ h=>h)
  (hy:YieldsIf P ops S oi v a:=by exact Or.inl ⟨by kernel_rfl,by (intro wx hSw;(try dsimp only at hSw);(try simp only [hS] at hSw);go_simp <;> with_reducible rfl)⟩) (hS:S w:=by assumption)
  (hl:listed.setIfInBounds i true=l':=by (first | (simp only [List.setIfInBounds_toArray,List.set_cons_zero,List.set_cons_succ];exact rfl) | exact rfl))
  (ha:a.put oi.dst v=a':=by (first | (simp only [Act.put,List.getElem_toArray,List.getElem_cons_succ,List.getElem_cons_zero,List.setIfInBounds_toArray,List.set_cons_zero,List.set_cons_succ];exact rfl) | exact rfl)):wpAnyH P md ops Q S (fuel + 1) listed a w:=by
 subst hl ha
 exact wpAnyH_take hi hs hf hr hQ hy hS h
theorem tbz{P:Program}{ops:Array Oper}{Q:Exit→Act→World→Prop}{md:Region.Mode}{S:World→Prop}(i:Nat){oi:Oper}{fuel:Nat}{listed l':Array Bool}{a a':Act}{w:World}(hi:ops[i]? = some oi)
  (h:wpAnyH P md ops Q S fuel l' a' w)
  (hs:Region.noSelect ops=true:=by kernel_rfl) (hf:Region.free md ops listed i=true:=by kernel_rfl) (hr:(Region.ready md ops listed).contains i=true:=by kernel_rfl)
  (hQ:∀ c a w,Q (.panic c) (a.put oi.dst undef) w→Q (.panic c) a w:=by exact fun _ _ _ h=>h)
  (hy:YieldsIf P ops S oi undef a:=by exact Or.inr ⟨by kernel_rfl,rfl⟩) (hS:S w:=by assumption)
  (hl:listed.setIfInBounds i true=l':=by (first | (simp only [List.setIfInBounds_toArray,List.set_cons_zero,List.set_cons_succ];exact rfl) | exact rfl))
  (ha:a.put oi.dst undef=a':=by (first | (simp only [Act.put,List.getElem_toArray,List.getElem_cons_succ,List.getElem_cons_zero,List.setIfInBounds_toArray,List.set_cons_zero,List.set_cons_succ];exact rfl) | exact rfl)):wpAnyH P md ops Q S (fuel + 1) listed a w:=by
 subst hl ha
 exact wpAnyH_take hi hs hf hr hQ hy hS h
theorem zH{p:Prop}(h:p):Hid p:=h
theorem tB{W w w':World}(F:Hid (Below W.heap.size W w))(h:Below w.heap.size w w'):Hid (Below W.heap.size W w'):=zH (F.out.trans (h.mono F.out.size))
section
variable {P:Program} {ops:Array Oper} {Q:Exit→Act→World→Prop} {md:Region.Mode} {S:World→Prop} {fuel:Nat} {listed l l':Array Bool} {a a':Act} {w:World} {K':Act→World→Prop}
theorem rd1(i:Nat){o:Oper}(h:∀ K':Act→World→Prop,Shut (∀ a w,S w→(S w→wpAnyH P md ops Q S fuel (listed.setIfInBounds i true) a w)→K' a w)→if Region.wanted o (yielded ops a.tmps)=true then Oper.wp P o a w K' Q else K' (a.put o.dst undef) w)
  (hr:Region.ready md ops listed = [i]:=by kernel_rfl) (ho:ops[i]? = some o:=by rfl):wpAnyH P md ops Q S (fuel + 1) listed a w:=
 wpAnyH_ready hr (by simp) (AllReadyH.cons ho h AllReadyH.nil)
theorem kp(hK:Shut (∀ a w,S w→(S w→wpAnyH P md ops Q S fuel l a w)→K' a w))(h:S w→wpAnyH P md ops Q S fuel l' a' w)
  (hS:S w:=by ((try dsimp only);(try simp only [hS]);first | ((repeat' apply And.intro) <;> assumption) | go_keep))
  (hl:l=l':=by (first | (simp only [List.setIfInBounds_toArray,List.set_cons_zero,List.set_cons_succ];exact rfl) | exact rfl))
  (ha:a=a':=by (first | (simp only [Act.put,List.getElem_toArray,List.getElem_cons_succ,List.getElem_cons_zero,List.setIfInBounds_toArray,List.set_cons_zero,List.set_cons_succ];exact rfl) | exact rfl)):K' a w:=by
 subst hl ha
 exact hK.out _ _ hS h
end
end Go.Proofs.YteimojoicfjdjaaGreat
