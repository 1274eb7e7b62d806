/- Parts of the proof: XHs. -/
import Derived.Test.YteimojoicfjdjaaGreatZ13
import Derived.Test.YteimojoicfjdjaaGreatZ14
namespace Go.Proofs.YteimojoicfjdjaaGreat
open Value renaming int → I
open IntKind renaming i64 → Z
open Go.RowKit Pl Sx
set_option linter.unusedVariables false
set_option linter.unusedSimpArgs false
theorem ret_bool{a b:Bool}(h:a=b):Ending.returned (.bool a)=.returned (.bool b):=by rw [h]
def eIn:Ent Tryz.prog:=e3 kI kI kI 16 (fun n_ l_ h_=>none) (fun n_ l_ h_=>.bool (inB n_ l_ h_)) fun n_ l_ h_ p w=>bw (l1In_any n_ l_ h_ w)
def eStop:Ent Tryz.prog:=e2 kI kI 100 (fun s_ b_=>some (0≤s_∧s_≤2000∧1≤b_∧b_≤2000)) (fun s_ b_=>I Z (stopP s_ b_)) fun s_ b_ p w=>have ⟨h1,h2,h3,h4⟩:=p _ rfl;bw (l1Stop_any s_ b_ h1 h2 h3 h4 w)
theorem specRange_below(h:Hs)(w:World) :
  Calls Tryz.prog 53 #[.agg #[I Z h.fl,I Z h.gp,I Z h.ln,I Z h.rf,I Z h.sp,I Z h.pu,I Z h.br,I Z h.dr,I Z h.lv,I Z h.dO,I Z h.ld,I Z h.qu]] w fun e w'=>e=.returned (.bool h.rangeB)∧Below w.heap.size w w':=by
 refine calls_ok mo (L:=[eIn]) Tryz.func53 (args:=[hv h]) (T:=cond (inB h.fl (2:Int) (12:Int)) (cond (inB h.gp (1:Int) (20000:Int)) (cond (inB h.rf (1:Int) (20000:Int)) (cond (inB h.ln (1:Int) (20000:Int)) (cond (inB h.sp (1:Int) (500:Int)) (cond (inB h.pu (1:Int) h.sp) (cond (inB h.br h.pu (500:Int)) (cond (inB h.dr (0:Int) (IntKind.i64.wrap (h.pu - 1))) (cond (inB h.lv (0:Int) (50:Int)) (cond (inB h.dO (1:Int) (20:Int)) (cond (inB h.ld (1:Int) (20:Int)) (IsB (inB h.qu (1:Int) (40:Int)) h.rangeB) (IsB false h.rangeB)) (IsB false h.rangeB)) (IsB false h.rangeB)) (IsB false h.rangeB)) (IsB false h.rangeB)) (IsB false h.rangeB)) (IsB false h.rangeB)) (IsB false h.rangeB)) (IsB false h.rangeB)) (IsB false h.rangeB)) (IsB false h.rangeB)) (by kernel_rfl) ?_ w
 repeat' refine if_b (fun e=>?_) (fun e=>?_)
 all_goals
  refine iB (Bool.eq_iff_iff.2 ?_)
  simp only [inB_iff,inB_no] at *
  try simp (disch:=omega) only [w64] at *
  simp only [Hs.rangeB,Bool.and_eq_true,inB_iff,reduceCtorEq,false_iff]
  omega
def eRange:Ent Tryz.prog:=e1 kH 53 (fun h_=>none) (fun h_=>.bool h_.rangeB) fun h_ p w=>specRange_below h_ w
theorem specApart_below(h:Hs)(o:h.Ok)(w:World) :
  Calls Tryz.prog 54 #[.agg #[I Z h.fl,I Z h.gp,I Z h.ln,I Z h.rf,I Z h.sp,I Z h.pu,I Z h.br,I Z h.dr,I Z h.lv,I Z h.dO,I Z h.ld,I Z h.qu]] w fun e w'=>e=.returned (I Z h.apart)∧Below w.heap.size w w':=by
 refine calls_ok mo (L:=[eStop]) Tryz.func54 (args:=[hv h]) (T:=(0≤h.sp∧h.sp≤2000∧1≤h.br∧h.br≤2000)∧IsI (IntKind.i64.wrap ((IntKind.i64.wrap ((IntKind.i64.wrap (h.ln + h.sp)) + (stopP h.sp h.br))) + (IntKind.i64.wrap (2 * h.lv)))) h.apart) (by kernel_rfl) ?_ w
 have ⟨s1,s2⟩:=o.stop_bd
 have:=o.sp1;have:=o.sp2;have:=o.pu1;have:=o.br1;have:=o.br2;have:=o.ln1;have:=o.ln2;have:=o.lv1;have:=o.lv2
 refine ⟨by omega,iI ?_⟩
 simp (disch:=omega) only [w64]
 rfl
def eApart:Ent Tryz.prog:=e1 kH 54 (fun h_=>some (h_.Ok)) (fun h_=>I Z h_.apart) fun h_ p w=>specApart_below h_ (p _ rfl) w
theorem specFault_any(h:Hs)(w:World) :
  Calls Tryz.prog 33 #[.agg #[I Z h.fl,I Z h.gp,I Z h.ln,I Z h.rf,I Z h.sp,I Z h.pu,I Z h.br,I Z h.dr,I Z h.lv,I Z h.dO,I Z h.ld,I Z h.qu]] w fun e w'=>e=.returned (I Z h.fault)∧Below w.heap.size w w':=by
 refine calls_ok mo (L:=[eRange,eApart]) Tryz.func33 (args:=[hv h]) (T:=cond (!h.rangeB) (IsI 3 h.fault) ((h.Ok)∧cond (!(decide (h.gp < h.apart))) ((h.Ok)∧cond (decide (h.rf < h.apart)) (IsI 1 h.fault) (IsI 0 h.fault)) (IsI 1 h.fault))) (by kernel_rfl) ?_ w
 unfold Hs.fault
 refine if_b (fun e=>iI ?_) (fun e=>⟨Hs.ok_of (by simpa using e),?_⟩)
 ·simp at e;simp [e]
 simp only [Bool.not_eq_false'] at e
 rw [if_pos e]
 refine if_b (fun f=>⟨Hs.ok_of e,if_b (fun g=>iI ?_) (fun g=>iI ?_)⟩) (fun f=>iI ?_)
 all_goals first | (simp_all;done) | (simp_all;omega)
def eFault:Ent Tryz.prog:=e1 kH 33 (fun h_=>none) (fun h_=>I Z h_.fault) fun h_ p w=>specFault_any h_ w
theorem specLevel_below(h:Hs)(o:h.Ok)(f:Int)(f1:-1≤f)(f2:f≤12)(w:World) :
  Calls Tryz.prog 102 #[.agg #[I Z h.fl,I Z h.gp,I Z h.ln,I Z h.rf,I Z h.sp,I Z h.pu,I Z h.br,I Z h.dr,I Z h.lv,I Z h.dO,I Z h.ld,I Z h.qu],I Z f] w fun e w'=>e=.returned (I Z (h.level f))∧Below w.heap.size w w':=by
 refine calls_ok mo (L:=[]) Tryz.func102 (args:=[hv h,I Z f]) (T:=cond (decide (f < 0)) (IsI (IntKind.i64.wrap (0 - h.rf)) (h.level f)) (cond (decide (f ≥ h.fl)) (IsI (IntKind.i64.wrap ((IntKind.i64.wrap ((IntKind.i64.wrap (h.fl - 1)) * h.gp)) + h.rf)) (h.level f)) (IsI (IntKind.i64.wrap (f * h.gp)) (h.level f)))) (by kernel_rfl) ?_ w
 have:=o.fl1;have:=o.fl2;have:=o.rf1;have:=o.rf2;have ⟨t1,t2⟩:=o.top_bd
 unfold Hs.level
 refine if_b (fun e=>iI ?_) (fun e=>if_b (fun g=>iI ?_) (fun g=>iI ?_))
 ·simp at e;rw [if_pos e,w64 (by omega) (by omega)];omega
 ·simp at e g;rw [if_neg (by omega),if_pos g,w64 (x:=h.fl - 1) (by omega) (by omega),w64 (x:=(h.fl - 1) * h.gp) (by omega) (by omega),w64 (by omega) (by omega)]
 ·simp at e g;have ⟨u1,u2⟩:=o.floor_bd f (by omega) f2
  rw [if_neg (by omega),if_neg (by omega),w64 (by omega) (by omega)]
def eLevel:Ent Tryz.prog:=e2 kH kI 102 (fun h_ f_=>some (h_.Ok∧-1≤f_∧f_≤12)) (fun h_ f_=>I Z (h_.level f_)) fun h_ f_ p w=>have ⟨h1,h2,h3⟩:=p _ rfl;specLevel_below h_ h1 f_ h2 h3 w
theorem specRoom_b(h:Hs)(o:h.Ok)(w:World) :
  Calls Tryz.prog 103 #[.agg #[I Z h.fl,I Z h.gp,I Z h.ln,I Z h.rf,I Z h.sp,I Z h.pu,I Z h.br,I Z h.dr,I Z h.lv,I Z h.dO,I Z h.ld,I Z h.qu]] w fun e w'=>e=.returned (I Z h.room)∧Below w.heap.size w w':=by
 refine calls_ok mo (L:=[eStop]) Tryz.func103 (args:=[hv h]) (T:=(0≤h.sp∧h.sp≤2000∧1≤h.br∧h.br≤2000)∧IsI (IntKind.i64.wrap ((IntKind.i64.wrap (h.lv + h.sp)) + (stopP h.sp h.br))) h.room) (by kernel_rfl) ?_ w
 have ⟨s1,s2⟩:=o.stop_bd
 have:=o.sp1;have:=o.sp2;have:=o.pu1;have:=o.br1;have:=o.br2;have:=o.lv1;have:=o.lv2
 refine ⟨by omega,iI ?_⟩
 simp (disch:=omega) only [w64]
 rfl
def eRoom:Ent Tryz.prog:=e1 kH 103 (fun h_=>some (h_.Ok)) (fun h_=>I Z h_.room) fun h_ p w=>specRoom_b h_ (p _ rfl) w
theorem specLow_below(h:Hs)(o:h.Ok)(w:World) :
  Calls Tryz.prog 59 #[.agg #[I Z h.fl,I Z h.gp,I Z h.ln,I Z h.rf,I Z h.sp,I Z h.pu,I Z h.br,I Z h.dr,I Z h.lv,I Z h.dO,I Z h.ld,I Z h.qu]] w fun e w'=>e=.returned (I Z h.low)∧Below w.heap.size w w':=by
 refine calls_ok mo (L:=[eLevel,eRoom]) Tryz.func59 (args:=[hv h]) (T:=(h.Ok∧-1≤((-1):Int)∧((-1):Int)≤12)∧(h.Ok)∧IsI (IntKind.i64.wrap ((h.level ((-1):Int)) - h.room)) h.low) (by kernel_rfl) ?_ w
 have ⟨m1,m2⟩:=o.room_bd;have:=o.rf1;have:=o.rf2
 have e:h.level (-1)=-h.rf:=by unfold Hs.level;rw [if_pos (by omega)]
 refine ⟨⟨o,by omega,by omega⟩,o,iI ?_⟩
 rw [e,w64 (by omega) (by omega)];rfl
def eLow2:Ent Tryz.prog:=e1 kH 59 (fun h_=>some (h_.Ok)) (fun h_=>I Z h_.low) fun h_ p w=>specLow_below h_ (p _ rfl) w
theorem specHigh_b(h:Hs)(o:h.Ok)(w:World) :
  Calls Tryz.prog 58 #[.agg #[I Z h.fl,I Z h.gp,I Z h.ln,I Z h.rf,I Z h.sp,I Z h.pu,I Z h.br,I Z h.dr,I Z h.lv,I Z h.dO,I Z h.ld,I Z h.qu]] w fun e w'=>e=.returned (I Z h.high)∧Below w.heap.size w w':=by
 refine calls_ok mo (L:=[eLevel,eRoom]) Tryz.func58 (args:=[hv h]) (T:=(h.Ok∧-1≤h.fl∧h.fl≤12)∧(h.Ok)∧IsI (IntKind.i64.wrap ((h.level h.fl) + h.room)) h.high) (by kernel_rfl) ?_ w
 have ⟨m1,m2⟩:=o.room_bd;have:=o.rf1;have:=o.rf2;have ⟨t1,t2⟩:=o.top_bd;have:=o.fl1;have:=o.fl2
 have e:h.level h.fl=(h.fl - 1) * h.gp + h.rf:=by unfold Hs.level;rw [if_neg (by omega),if_pos (by omega)]
 refine ⟨⟨o,by omega,by omega⟩,o,iI ?_⟩
 rw [e,w64 (by omega) (by omega)];rfl
def eHigh2:Ent Tryz.prog:=e1 kH 58 (fun h_=>some (h_.Ok)) (fun h_=>I Z h_.high) fun h_ p w=>specHigh_b h_ (p _ rfl) w
end Go.Proofs.YteimojoicfjdjaaGreat
