/-
  What the law's frame wants: the world's facts out of what the row lists; a result with its row in the open.
-/
import Derived.Test.YtoacnglcneliiaaGreatDoorParI
import Derived.Test.YtoacnglcneliiaaGreatDoorRows
import Derived.Test.YtoacnglcneliiaaGreatDoorFmtI
import Derived.Lib.AppendIntMem
import Derived.Lib.LaidTab
import Derived.LaidSub
import Derived.LaidHandle
import Derived.MakeChecks
import Derived.Stop.LaidErr
import Derived.Shelf.Vars
import Derived.SizedLaws
import Derived.KernelRfl
namespace Go.Proofs.YtoacnglcneliiaaGreatDoor
open Go.RowKit Go.Shelf Pl
set_option linter.unusedSimpArgs false
set_option linter.unusedVariables false

/-- What is answered, the row of events in the open. -/
def isPaS (w : World) (k a : Int) (l : List Ev) (e : Ending) (w' : World) : Prop := ∃ s c, e = .returned (.agg #[.int .i64 k, .int .i64 a, .slice s l.length c]) ∧ OwnE w' w.heap.size (.slice s l.length c) l ∧ Below w.heap.size w w'
theorem isPa.s {w : World} {k a : Int} {l : List Ev} {e : Ending} {w' : World} (h : isPa w k a l e w') : isPaS w k a l e w' := by
  obtain ⟨v, he, ho, hb⟩ := h
  obtain ⟨s, c, rfl, -⟩ := ho.pin
  exact ⟨s, c, he, ho, hb⟩
theorem paV_len (h : Hs) (s : ByteArray) : (Hs.paV h s).length ≤ 1048576 := by
  unfold Hs.paV
  split
  · simp
  split
  · simp
  rename_i h1 h2
  split
  · simp
  split
  · have a := evsL_len (lnS s)
    have b := lnS_len s
    have c := lnN_le s
    have d := cutF_len s 10 s.size 0 0
    rw [show cutF s 10 s.size 0 0 = cutS s 10 from rfl] at d
    omega
  · simp
/-- A call's contract to the row's claim: with what the row lists and with the world's shape. -/
theorem handed_shaped {H : Type} {enc : TypeId × Value → H} {a : Assume} {C : Checked} {os : Os} {f : FuncId} {fn : Func} {s : ChangeSpec} {conds : List PathCond} {apart fresh handsOn again : Bool} {X : World → Prop}
    (hX : ∀ (w w' : World), w.heap = w'.heap → X w → X w')
    (own : ownKnob C.prog.godebug = none) (started : os.Started) (noInit : C.prog.inits.idxOf? f = none) (hfn : C.prog.funcs[f]? = some fn)
    (witness : ∃ (w : World) (tape : Tape) (i : Input), w.os = os ∧ (w.forCall tape i).Shaped C.prog ∧ i.vars = [] ∧ Input.okWide C.prog (w.forCall tape i) .any w.heap.size f i ∧
      ((s.pre enc C.prog fn conds apart (w.forCall tape i).memory i.args ∧ X (w.forCall tape i).memory) ∧ sizedMet enc C.prog fn (OpenSpec.ofChange s) apart (w.forCall tape i).memory i.args) ∧ a.holds C.prog (lone (Frame.enter C.prog f i.args .normal) [] (w.forCall tape i)))
    (contract : ∀ (W : World) (base : Nat) (args : Array Value) (ds gs : List (DataW H)) (before : List MemPlace),
      (∀ (j : Nat) t v, fn.params[j]? = some t → args[j]? = some v → Value.okWide C.prog W .any base t v) →
      DataW.Whole enc C.prog fn.params.toList s.vars apart W args.toList ds gs before → X W → W.ShapedOpen C.prog →
      Calls C.prog f args W fun e W' => ∃ v, e = .returned v ∧ s.post enc C.prog fn apart fresh handsOn again W args v W') :
    ReturnsInHanded a C os f .any (fun w args => (s.pre enc C.prog fn conds apart w args ∧ X w) ∧ sizedMet enc C.prog fn (OpenSpec.ofChange s) apart w args) (s.post enc C.prog fn apart fresh handsOn again) := by
  refine returnsInHanded_of_calls own started noInit witness ?_
  intro w tape i _ hsh _ hok hpre _
  obtain ⟨_, _, _, fn', hfn', _, _, _, _, hval⟩ := hok
  obtain rfl : fn' = fn := Option.some.inj (hfn'.symm.trans hfn)
  obtain ⟨⟨⟨ds, gs, before, hw, _⟩, hx⟩, _⟩ := hpre
  refine (contract (w.forCall tape i) w.heap.size i.args ds gs before hval (DataW.Whole.of_heap (w' := w.forCall tape i) (by rfl) hw) (hX _ _ (by rfl) hx) hsh).mono fun e W' ⟨v, he, hp⟩ => ?_
  subst he
  exact ChangeSpec.post_blind hp
theorem star_err : "*" ++ "errors.errorString" = "*errors.errorString" := by decide
theorem row_err (u : TypeId) (h : Tryz.prog.typeName? 3 u = some "*errors.errorString") : u = 174 :=
  typeName_ptr_named (nm := "errors.errorString") (by rw [star_err]; kernel_rfl) (by kernel_rfl) (by decide) u (by rw [star_err]; exact h)
theorem err_rows : ((List.range Tryz.prog.types.size).filter fun t => Tryz.prog.rowNamed t [101, 114, 114, 111, 114]) = [44] := by kernel_rfl
theorem laid_plain : (Rows.fnEventTextsRow.laid.filter fun x => x.2.handleName?.isNone) = [("math/bits.deBruijn32tab", Rows.laid_math_bits_deBruijn32tab), ("math/bits.deBruijn64tab", Rows.laid_math_bits_deBruijn64tab), ("internal/strconv.uint64pow10", Rows.laid_internal_strconv_uint64pow10), ("unicode/utf8.acceptRanges", Rows.laid_unicode_utf8_acceptRanges), ("strconv.ErrRange", Rows.laid_strconv_ErrRange), ("strconv.ErrSyntax", Rows.laid_strconv_ErrSyntax), ("loop.example/g00155/impl.errUnreadable", Rows.laid_loop_example_g00155_impl_errUnreadable), ("unicode/utf8.first", Rows.laid_unicode_utf8_first)] := by rfl
theorem laid_handle : (Rows.fnEventTextsRow.laid.filter fun x => x.2.handleName?.isSome) = [("errors.errorType", Rows.laid_errors_errorType)] := by rfl
/-- What the row's list and the world's shape tell of the variables. -/
theorem vr_of {W : World} (hL : laidMetH Tryz.prog Rows.fnEventTextsRow.laid W) (hsh : W.ShapedOpen Tryz.prog) :
    ∃ a, Vr W (.iface 174 (.pointer (some a))) ∧ Vh W ∧ W.var? Tryz.prog "loop.example/g00155/impl.errUnreadable" = some #[.iface 174 (.pointer (some a))] := by
  obtain ⟨hd, hh⟩ := laidMetH_iff.1 hL
  rw [laid_plain] at hd
  rw [laid_handle] at hh
  have h4 := hd.tail.tail.tail.tail
  obtain ⟨a1, s1, hv1, hc1, _, _⟩ := laid_sentinel (n := "strconv.ErrRange") h4 (by kernel_rfl : Tryz.prog.globalNamed "strconv.ErrRange" = some 7) (by kernel_rfl : (Tryz.prog.globals[7]?).map (·.type) = some 44) Tryz.underlying44 row_err Tryz.underlying174 Tryz.underlying176 rfl rfl Tryz.underlying9 (by kernel_rfl) (by kernel_rfl)
  have h5 := h4.tail
  obtain ⟨a2, s2, hv2, hc2, _, _⟩ := laid_sentinel (n := "strconv.ErrSyntax") h5 (by kernel_rfl : Tryz.prog.globalNamed "strconv.ErrSyntax" = some 6) (by kernel_rfl : (Tryz.prog.globals[6]?).map (·.type) = some 44) Tryz.underlying44 row_err Tryz.underlying174 Tryz.underlying176 rfl rfl Tryz.underlying9 (by kernel_rfl) (by kernel_rfl)
  have h6 := h5.tail
  obtain ⟨a3, s3, hv3, hc3, _, _⟩ := laid_sentinel (n := "loop.example/g00155/impl.errUnreadable") h6 (by kernel_rfl : Tryz.prog.globalNamed "loop.example/g00155/impl.errUnreadable" = some 1) (by kernel_rfl : (Tryz.prog.globals[1]?).map (·.type) = some 44) Tryz.underlying44 row_err Tryz.underlying174 Tryz.underlying176 rfl rfl Tryz.underlying9 (by kernel_rfl) (by kernel_rfl)
  obtain ⟨m, hm⟩ := cell_of_shapedOpen_int (P := Tryz.prog) (g := 5) (t := 3) (zero := #[.int .i64 0]) hsh (of_decide_eq_true (by kernel_rfl)) (by kernel_rfl) rfl (by kernel_rfl) (by kernel_rfl) Tryz.underlying3
  refine ⟨a3, ⟨?_, ⟨_, _, rfl⟩, ⟨.iface 174 (.pointer (some a2)), ?_, Or.inr ⟨_, _, rfl⟩⟩, ⟨.iface 174 (.pointer (some a1)), ?_, Or.inr ⟨_, _, rfl⟩⟩, ⟨m, hm⟩⟩, ?_, hv3⟩
  · simpa using World.var?_cell (by kernel_rfl) hv3 0
  · have q := World.var?_cell (g := 6) (by kernel_rfl) hv2 0
    show W.cell? ⟨6, 0, none⟩ = _
    simpa using q
  · have q := World.var?_cell (g := 7) (by kernel_rfl) hv1 0
    show W.cell? ⟨7, 0, none⟩ = _
    simpa using q
  · obtain ⟨name, u, ty, e1, e2, e3, e4, e5⟩ := hh _ (List.mem_singleton.2 rfl)
    have en : name = [101, 114, 114, 111, 114] := (Option.some.inj e1).symm
    subst en
    obtain rfl := Option.some.inj ((by kernel_rfl : (Tryz.prog.cutTypes.find? (·.1 == "internal/reflectlite.rtype")).map (·.2) = some 117).symm.trans e2)
    have hm : ty ∈ (List.range Tryz.prog.types.size).filter fun t => Tryz.prog.rowNamed t [101, 114, 114, 111, 114] := List.mem_filter.2 ⟨List.mem_range.2 e3, e4⟩
    rw [err_rows] at hm
    obtain rfl := List.mem_singleton.1 hm
    have ht : typeHandle Tryz.prog 44 = .pointer (some ⟨10, 44, none⟩) := by kernel_rfl
    rw [ht] at e5
    have q := World.var?_cell (g := 0) (by kernel_rfl) e5 0
    unfold Vh
    simpa using q
theorem tb_of {W : World} (hL : laidMetH Tryz.prog Rows.fnEventTextsRow.laid W) : Tb W := by
  obtain ⟨hd, -⟩ := laidMetH_iff.1 hL
  rw [laid_plain] at hd
  exact Lib.tabBelow_of_tabIs (Lib.tabIs_of_head (g := 2) (t := 135) (e := 97) (n := 20) (by kernel_rfl) (by kernel_rfl) Tryz.underlying135 Tryz.underlying97 (by kernel_rfl) (by kernel_rfl) hd.tail.tail)
end Go.Proofs.YtoacnglcneliiaaGreatDoor
