/-
  The program's ParseEvents.
-/
import Derived.Test.YtoacnglcneliiaaGreatDoorParH
import Derived.Test.YtoacnglcneliiaaGreatDoorEvV
namespace Go.Proofs.YtoacnglcneliiaaGreatDoor
open Go.RowKit Go.Shelf Pl
set_option linter.unusedSimpArgs false
set_option linter.unusedVariables false

/-- What the errors' variable holds. -/
def Vh (w : World) : Prop := w.cell? ⟨0, 0, none⟩ = some (.iface 117 (.agg #[.pointer (some ⟨10, 44, none⟩)]))
theorem Vh.below {W w : World} {B : Nat} (h : Vh W) (hb : Below B W w) (hB : W.heap.size ≤ B) : Vh w := (hb.cell (p := ⟨0, 0, none⟩) (Nat.lt_of_lt_of_le (World.block_lt_of_cell? W _ h) hB)).trans h
/-- The lines that are read; the code, the line, the events. -/
def lnS (s : ByteArray) : List ByteArray := (cutS s 10).take (lnN s)
def Hs.paK (h : Hs) (s : ByteArray) : Int := if h.fault ≠ 0 then h.fault else if 3000 < s.size then 2 else match fb (lnS s) 0 with | some _ => 5 | none => Hs.tr h (evsL (lnS s))
def Hs.paA (h : Hs) (s : ByteArray) : Int := if h.fault ≠ 0 then 0 else if 3000 < s.size then 0 else match fb (lnS s) 0 with | some i => (i : Int) | none => 0
def Hs.paV (h : Hs) (s : ByteArray) : List Ev := if h.fault ≠ 0 then [] else if 3000 < s.size then [] else match fb (lnS s) 0 with | some _ => [] | none => if Hs.tr h (evsL (lnS s)) = 0 then evsL (lnS s) else []
/-- What is answered: a code, a line, events in a row of their own. -/
def isPa (w : World) (k a : Int) (l : List Ev) (e : Ending) (w' : World) : Prop := ∃ v, e = .returned (.agg #[.int .i64 k, .int .i64 a, v]) ∧ OwnE w' w.heap.size v l ∧ Below w.heap.size w w'
theorem ownE_ein {w : World} {B n c : Nat} {a : Option Addr} {l : List Ev} (h : OwnE w B (.slice a n c) l) : EIn w w.heap.size a l := by
  obtain ⟨a', c', e, q⟩ := h.pin
  injection e with e1 e2 e3
  subst e1
  exact q
theorem ownE_row {w : World} {B b : Nat} {v : Value} {l : List Ev} (h : OwnE w B v l) (hb : b < B) (cs : Array Value) : OwnE (w.setRow b cs) B v l :=
  World.ownsRow.kept (row := some b) h ⟨rfl, rfl, rfl, by simp, fun k hk hne => setRow_other w b k cs (fun e => hne (by rw [e]))⟩ (Or.inr (fun e => by have := (h.lt b e).1; omega))
theorem ownE_alloc {w : World} {B : Nat} {v : Value} {l : List Ev} (h : OwnE w B v l) (o : Obj) : OwnE (w.alloc o) B v l := World.ownsRow.alloc h o
theorem lnS_mem {s x : ByteArray} (h : x ∈ lnS s) : x.size ≤ s.size := cutF_size s 10 _ _ _ x (List.mem_of_mem_take h)
theorem lnS_len (s : ByteArray) : (lnS s).length = lnN s := by unfold lnS; rw [List.length_take]; have := lnN_le s; omega
set_option maxRecDepth 20000 in
set_option maxHeartbeats 16000000 in
theorem implParse_any (h : Hs) (s : ByteArray) (hs : s.size ≤ 1048576) (eu : Value) (w : World) (hV : Vr w eu) (hH : Vh w) :
    Calls Tryz.prog 8 #[.agg #[.int .i64 h.fl, .int .i64 h.gp, .int .i64 h.ln, .int .i64 h.rf, .int .i64 h.sp, .int .i64 h.pu, .int .i64 h.br, .int .i64 h.dr, .int .i64 h.lv, .int .i64 h.dO, .int .i64 h.ld, .int .i64 h.qu], .string s] w (isPa w (Hs.paK h s) (Hs.paA h s) (Hs.paV h s)) := by
  have HV : Hid (Vr w eu) := hV
  have HH : Hid (Vh w) := hH
  obtain ⟨te, pe, rfl⟩ := hV.iu
  clear hV hH
  obtain ⟨W0, hW0⟩ : ∃ W0, W0 = (w.alloc (.cells #[.int .i64 h.fl, .int .i64 h.gp, .int .i64 h.ln, .int .i64 h.rf, .int .i64 h.sp, .int .i64 h.pu, .int .i64 h.br, .int .i64 h.dr, .int .i64 h.lv, .int .i64 h.dO, .int .i64 h.ld, .int .i64 h.qu] 25)).alloc (.cells #[.int .i64 0, .int .i64 0, .slice none 0 0] 31) := ⟨_, rfl⟩
  have F0 : Hid (Blk W0 w.heap.size [.int .i64 h.fl, .int .i64 h.gp, .int .i64 h.ln, .int .i64 h.rf, .int .i64 h.sp, .int .i64 h.pu, .int .i64 h.br, .int .i64 h.dr, .int .i64 h.lv, .int .i64 h.dO, .int .i64 h.ld, .int .i64 h.qu]) := by rw [hW0]; exact (Blk.at_ w #[.int .i64 h.fl, .int .i64 h.gp, .int .i64 h.ln, .int .i64 h.rf, .int .i64 h.sp, .int .i64 h.pu, .int .i64 h.br, .int .i64 h.dr, .int .i64 h.lv, .int .i64 h.dO, .int .i64 h.ld, .int .i64 h.qu] _ _ rfl).alloc _
  have FR : Hid (Blk W0 (w.heap.size + 1) [.int .i64 0, .int .i64 0, .slice none 0 0]) := by rw [hW0]; exact Blk.at_ _ #[.int .i64 0, .int .i64 0, .slice none 0 0] _ _ (by simp)
  have FB : Hid (Below w.heap.size w W0) := by rw [hW0]; exact ((Below.refl _ _).alloc (Nat.le_refl _) _).alloc (by simp) _
  have HW0 : Hid (W0 = (w.alloc (.cells #[.int .i64 h.fl, .int .i64 h.gp, .int .i64 h.ln, .int .i64 h.rf, .int .i64 h.sp, .int .i64 h.pu, .int .i64 h.br, .int .i64 h.dr, .int .i64 h.lv, .int .i64 h.dO, .int .i64 h.ld, .int .i64 h.qu] 25)).alloc (.cells #[.int .i64 0, .int .i64 0, .slice none 0 0] 31)) := hW0
  clear hW0
  unfold isPa Hs.paK Hs.paA Hs.paV
  by_cases hf : h.fault = 0
  case neg =>
    have hfb : (h.fault == 0) = false := by simpa using hf
    rw [if_pos hf, if_pos hf, if_pos hf]
    obtain ⟨k, hk⟩ : ∃ k, h.fault = k := ⟨_, rfl⟩
    have CF := fun W => implFault_any h W
    rw [hk] at CF hfb ⊢
    clear hf hk
    go_enter Tryz.func8, Tryz.ntmps8
    go_upto_region 1 with fail
    rw [← HW0.out]
    go_wp2_with (first | (refine load_blk 25 _ Tryz.underlying25 (by kernel_rfl) F0.out rfl rfl rfl ?_) | (go_at_call 17; refine (CF _).mono ?_; rintro e w1 ⟨rfl, hb⟩; have F0 : Hid (Blk w1 w.heap.size [.int .i64 h.fl, .int .i64 h.gp, .int .i64 h.ln, .int .i64 h.rf, .int .i64 h.sp, .int .i64 h.pu, .int .i64 h.br, .int .i64 h.dr, .int .i64 h.lv, .int .i64 h.dO, .int .i64 h.ld, .int .i64 h.qu]) := F0.out.below hb F0.out.lt; have FR : Hid (Blk w1 (w.heap.size + 1) [.int .i64 0, .int .i64 0, .slice none 0 0]) := FR.out.below hb FR.out.lt; have FB : Hid (Below w.heap.size w w1) := FB.out.trans (hb.mono FB.out.size); clear hb) | (refine store_blk [.int .i64 k, .int .i64 0, .slice none 0 0] 31 _ _ (by kernel_rfl) (by kernel_rfl) (by kernel_rfl) FR.out rfl rfl rfl rfl ?_))
    exact bodyPost_ret (v := .agg #[.int .i64 k, .int .i64 0, .slice none 0 0]) ((FR.out.row [.int .i64 k, .int .i64 0, .slice none 0 0]).res _ Tryz.results8 Tryz.underlying31 (by kernel_rfl) rfl) rfl ⟨_, rfl, ownE_nil _ _, below_row FB.out (by omega) _⟩
  have CF := fun W => implFault_any h W
  have hf2 : ¬ (h.fault ≠ 0) := fun q => q hf
  rw [hf] at CF
  rw [if_neg hf2, if_neg hf2, if_neg hf2]
  clear hf hf2
  by_cases hz : 3000 < s.size
  · rw [if_pos hz, if_pos hz, if_pos hz]
    have hzi : (3000 : Int) < (s.size : Int) := by omega
    go_enter Tryz.func8, Tryz.ntmps8
    go_upto_region 1 with fail
    rw [← HW0.out]
    go_wp2_with (first | (refine load_blk 25 _ Tryz.underlying25 (by kernel_rfl) F0.out rfl rfl rfl ?_) | (go_at_call 17; refine (CF _).mono ?_; rintro e w1 ⟨rfl, hb⟩; have F0 : Hid (Blk w1 w.heap.size [.int .i64 h.fl, .int .i64 h.gp, .int .i64 h.ln, .int .i64 h.rf, .int .i64 h.sp, .int .i64 h.pu, .int .i64 h.br, .int .i64 h.dr, .int .i64 h.lv, .int .i64 h.dO, .int .i64 h.ld, .int .i64 h.qu]) := F0.out.below hb F0.out.lt; have FR : Hid (Blk w1 (w.heap.size + 1) [.int .i64 0, .int .i64 0, .slice none 0 0]) := FR.out.below hb FR.out.lt; have FB : Hid (Below w.heap.size w w1) := FB.out.trans (hb.mono FB.out.size); clear hb) | (refine store_blk [.int .i64 2, .int .i64 0, .slice none 0 0] 31 _ _ (by kernel_rfl) (by kernel_rfl) (by kernel_rfl) FR.out rfl rfl rfl rfl ?_))
    exact bodyPost_ret (v := .agg #[.int .i64 2, .int .i64 0, .slice none 0 0]) ((FR.out.row [.int .i64 2, .int .i64 0, .slice none 0 0]).res _ Tryz.results8 Tryz.underlying31 (by kernel_rfl) rfl) rfl ⟨_, rfl, ownE_nil _ _, below_row FB.out (by omega) _⟩
  have hzi : ¬ ((3000 : Int) < (s.size : Int)) := by omega
  rw [if_neg hz, if_neg hz, if_neg hz]
  have CL := fun W q => linesIn_any s hs (.iface te pe) W q
  have lS := lnS_len s
  have ll : lnN s ≤ 3001 := Nat.le_trans (lnN_le s) (Nat.le_trans (cutF_len s 10 _ _ _) (by omega))
  obtain ⟨n, hn⟩ : ∃ n, lnN s = n := ⟨_, rfl⟩
  have CE := fun (g cap : Nat) W a b c => eventsIn_any (lnS s) g cap (.iface te pe) (by omega) (fun x hx => Nat.le_trans (lnS_mem hx) hs) W a b c
  have HT : Hid (∀ (i : Nat) x, (lnS s)[i]? = some x → (cutS s 10)[i]? = some x) := fun i x hx => by
    unfold lnS at hx
    rw [List.getElem?_take] at hx
    split at hx
    · exact hx
    · cases hx
  rw [lS, hn] at CE
  rw [hn] at CL ll lS
  obtain ⟨LS, hLS⟩ : ∃ LS, lnS s = LS := ⟨_, rfl⟩
  rw [hLS] at CE HT lS ⊢
  clear hLS hn hz
  cases hfb : fb LS 0 with
  | some i =>
    rw [hfb] at CE
    have CE2 : ∀ (g cap : Nat) W, g < W.heap.size → (∀ i x, LS[i]? = some x → W.cell? ⟨g, i, none⟩ = some (.string x)) → Vr W (.iface te pe) → Calls Tryz.prog 18 #[.slice (some ⟨g, 0, none⟩) n cap] W fun e w' => ∃ v, e = .returned (.tuple #[v, .iface 50 (.agg #[.int .i64 (i : Int), .iface te pe])]) ∧ (some i = none → OwnE w' W.heap.size v (evsL LS)) ∧ Below W.heap.size W w' := CE
    clear CE hfb
    dsimp only
    go_enter Tryz.func8, Tryz.ntmps8
    go_upto_region 1 with fail
    rw [← HW0.out]
    clear HW0
    go_upto_region 7 with (first | (refine load_blk 25 _ Tryz.underlying25 (by kernel_rfl) F0.out rfl rfl rfl ?_) | (go_at_call 17; refine (CF _).mono ?_; rintro e w1 ⟨rfl, hb⟩; have F0 : Hid (Blk w1 w.heap.size [.int .i64 h.fl, .int .i64 h.gp, .int .i64 h.ln, .int .i64 h.rf, .int .i64 h.sp, .int .i64 h.pu, .int .i64 h.br, .int .i64 h.dr, .int .i64 h.lv, .int .i64 h.dO, .int .i64 h.ld, .int .i64 h.qu]) := F0.out.below hb F0.out.lt; have FR : Hid (Blk w1 (w.heap.size + 1) [.int .i64 0, .int .i64 0, .slice none 0 0]) := FR.out.below hb FR.out.lt; have FB : Hid (Below w.heap.size w w1) := FB.out.trans (hb.mono FB.out.size); clear hb) | (go_at_call 19; refine (CL _ (HV.out.below FB.out (Nat.le_refl _))).mono ?_; rintro e w2 ⟨g, cap, rfl, hg1, hg2, hc, hb⟩; have F0 : Hid (Blk w2 w.heap.size [.int .i64 h.fl, .int .i64 h.gp, .int .i64 h.ln, .int .i64 h.rf, .int .i64 h.sp, .int .i64 h.pu, .int .i64 h.br, .int .i64 h.dr, .int .i64 h.lv, .int .i64 h.dO, .int .i64 h.ld, .int .i64 h.qu]) := F0.out.below hb F0.out.lt; have FR : Hid (Blk w2 (w.heap.size + 1) [.int .i64 0, .int .i64 0, .slice none 0 0]) := FR.out.below hb FR.out.lt; have FB : Hid (Below w.heap.size w w2) := FB.out.trans (hb.mono FB.out.size); clear hb) | (go_at_call 18; refine (CE2 g cap _ hg2 (fun i x hx => hc i x (HT.out i x hx)) (HV.out.below FB.out (Nat.le_refl _))).mono ?_; rintro e w3 ⟨v, rfl, -, hb⟩; have F0 : Hid (Blk w3 w.heap.size [.int .i64 h.fl, .int .i64 h.gp, .int .i64 h.ln, .int .i64 h.rf, .int .i64 h.sp, .int .i64 h.pu, .int .i64 h.br, .int .i64 h.dr, .int .i64 h.lv, .int .i64 h.dO, .int .i64 h.ld, .int .i64 h.qu]) := F0.out.below hb F0.out.lt; have FR : Hid (Blk w3 (w.heap.size + 1) [.int .i64 0, .int .i64 0, .slice none 0 0]) := FR.out.below hb FR.out.lt; have FB : Hid (Below w.heap.size w w3) := FB.out.trans (hb.mono FB.out.size); clear hb))
    have HX : Hid (Vh w3) := HH.out.below FB.out (Nat.le_refl _)
    obtain ⟨tb, htb⟩ : ∃ tb, tb = w3.heap.size := ⟨_, rfl⟩
    obtain ⟨W4, hW4⟩ : ∃ W4, W4 = w3.alloc (.cells #[.int .i64 0, .nilIface] 50) := ⟨_, rfl⟩
    have FT : Hid (Blk W4 tb [.int .i64 0, .nilIface]) := by rw [hW4]; exact Blk.at_ w3 #[.int .i64 0, .nilIface] _ _ htb
    have lt0 : w.heap.size + 1 < tb := by rw [htb]; exact FR.out.lt
    have F0 : Hid (Blk W4 w.heap.size [.int .i64 h.fl, .int .i64 h.gp, .int .i64 h.ln, .int .i64 h.rf, .int .i64 h.sp, .int .i64 h.pu, .int .i64 h.br, .int .i64 h.dr, .int .i64 h.lv, .int .i64 h.dO, .int .i64 h.ld, .int .i64 h.qu]) := by rw [hW4]; exact F0.out.alloc _
    have FR : Hid (Blk W4 (w.heap.size + 1) [.int .i64 0, .int .i64 0, .slice none 0 0]) := by rw [hW4]; exact FR.out.alloc _
    have FB : Hid (Below w.heap.size w W4) := by rw [hW4]; exact FB.out.alloc FB.out.size _
    have HX : Hid (Vh W4) := HH.out.below FB.out (Nat.le_refl _)
    go_upto_region 8 with fail
    rw [← hW4, ← htb]
    clear hW4 htb
    go_upto_region 9 with (go_at_call 20; refine (as_hit (i : Int) (.iface te pe) _ _ rfl tb _ HX.out FT.out).mono ?_; rintro e w5 ⟨rfl, ht, hk, hsz, hb⟩; have FT : Hid (Blk w5 tb [.int .i64 (i : Int), .iface te pe]) := ht; have F0 : Hid (Blk w5 w.heap.size [.int .i64 h.fl, .int .i64 h.gp, .int .i64 h.ln, .int .i64 h.rf, .int .i64 h.sp, .int .i64 h.pu, .int .i64 h.br, .int .i64 h.dr, .int .i64 h.lv, .int .i64 h.dO, .int .i64 h.ld, .int .i64 h.qu]) := F0.out.of (hk _ F0.out.lt (by omega)); have FR : Hid (Blk w5 (w.heap.size + 1) [.int .i64 0, .int .i64 0, .slice none 0 0]) := FR.out.of (hk _ FR.out.lt (by omega)); have FB : Hid (Below w.heap.size w w5) := FB.out.trans (hb.mono (by omega)); clear ht hk hsz hb)
    have y0 := FT.out.c 0 _ rfl
    go_wp2_with (refine store_blk [.int .i64 5, .int .i64 (i : Int), .slice none 0 0] 31 _ _ (by kernel_rfl) (by kernel_rfl) (by kernel_rfl) FR.out rfl rfl rfl rfl ?_)
    exact bodyPost_ret (v := .agg #[.int .i64 5, .int .i64 (i : Int), .slice none 0 0]) ((FR.out.row [.int .i64 5, .int .i64 (i : Int), .slice none 0 0]).res _ Tryz.results8 Tryz.underlying31 (by kernel_rfl) rfl) rfl ⟨_, rfl, ownE_nil _ _, below_row FB.out (by omega) _⟩
  | none =>
    rw [hfb] at CE
    have CE2 : ∀ (g cap : Nat) W, g < W.heap.size → (∀ i x, LS[i]? = some x → W.cell? ⟨g, i, none⟩ = some (.string x)) → Vr W (.iface te pe) → Calls Tryz.prog 18 #[.slice (some ⟨g, 0, none⟩) n cap] W fun e w' => ∃ v, e = .returned (.tuple #[v, .nilIface]) ∧ ((none : Option Nat) = none → OwnE w' W.heap.size v (evsL LS)) ∧ Below W.heap.size W w' := CE
    clear CE hfb
    have el := evsL_len LS
    obtain ⟨es, hes⟩ : ∃ es, evsL LS = es := ⟨_, rfl⟩
    rw [hes] at CE2 el
    dsimp only
    rw [hes]
    clear hes
    obtain ⟨kt, hkt⟩ : ∃ kt, Hs.tr h es = kt := ⟨_, rfl⟩
    have CT := fun (a : Option Addr) (c : Nat) W q => implTrace_any h es a c (by omega) W q
    rw [hkt] at CT ⊢
    clear hkt
    go_enter Tryz.func8, Tryz.ntmps8
    go_upto_region 1 with fail
    rw [← HW0.out]
    clear HW0
    go_upto_region 7 with (first | (refine load_blk 25 _ Tryz.underlying25 (by kernel_rfl) F0.out rfl rfl rfl ?_) | (go_at_call 17; refine (CF _).mono ?_; rintro e w1 ⟨rfl, hb⟩; have F0 : Hid (Blk w1 w.heap.size [.int .i64 h.fl, .int .i64 h.gp, .int .i64 h.ln, .int .i64 h.rf, .int .i64 h.sp, .int .i64 h.pu, .int .i64 h.br, .int .i64 h.dr, .int .i64 h.lv, .int .i64 h.dO, .int .i64 h.ld, .int .i64 h.qu]) := F0.out.below hb F0.out.lt; have FR : Hid (Blk w1 (w.heap.size + 1) [.int .i64 0, .int .i64 0, .slice none 0 0]) := FR.out.below hb FR.out.lt; have FB : Hid (Below w.heap.size w w1) := FB.out.trans (hb.mono FB.out.size); clear hb) | (go_at_call 19; refine (CL _ (HV.out.below FB.out (Nat.le_refl _))).mono ?_; rintro e w2 ⟨g, cap, rfl, hg1, hg2, hc, hb⟩; have F0 : Hid (Blk w2 w.heap.size [.int .i64 h.fl, .int .i64 h.gp, .int .i64 h.ln, .int .i64 h.rf, .int .i64 h.sp, .int .i64 h.pu, .int .i64 h.br, .int .i64 h.dr, .int .i64 h.lv, .int .i64 h.dO, .int .i64 h.ld, .int .i64 h.qu]) := F0.out.below hb F0.out.lt; have FR : Hid (Blk w2 (w.heap.size + 1) [.int .i64 0, .int .i64 0, .slice none 0 0]) := FR.out.below hb FR.out.lt; have FB : Hid (Below w.heap.size w w2) := FB.out.trans (hb.mono FB.out.size); clear hb) | (go_at_call 18; refine (CE2 g cap _ hg2 (fun i x hx => hc i x (HT.out i x hx)) (HV.out.below FB.out (Nat.le_refl _))).mono ?_; rintro e w3 ⟨v, rfl, ho, hb⟩; have FO : Hid (OwnE w3 (w.heap.size + 2) v es) := ownE_base (ho trivial) FR.out.lt; have F0 : Hid (Blk w3 w.heap.size [.int .i64 h.fl, .int .i64 h.gp, .int .i64 h.ln, .int .i64 h.rf, .int .i64 h.sp, .int .i64 h.pu, .int .i64 h.br, .int .i64 h.dr, .int .i64 h.lv, .int .i64 h.dO, .int .i64 h.ld, .int .i64 h.qu]) := F0.out.below hb F0.out.lt; have FR : Hid (Blk w3 (w.heap.size + 1) [.int .i64 0, .int .i64 0, .slice none 0 0]) := FR.out.below hb FR.out.lt; have FB : Hid (Below w.heap.size w w3) := FB.out.trans (hb.mono FB.out.size); clear ho hb))
    obtain ⟨a, c, rfl, -⟩ := FO.out.pin
    obtain ⟨tb, htb⟩ : ∃ tb, tb = w3.heap.size := ⟨_, rfl⟩
    obtain ⟨W4, hW4⟩ : ∃ W4, W4 = w3.alloc (.cells #[.int .i64 0, .nilIface] 50) := ⟨_, rfl⟩
    have F0 : Hid (Blk W4 w.heap.size [.int .i64 h.fl, .int .i64 h.gp, .int .i64 h.ln, .int .i64 h.rf, .int .i64 h.sp, .int .i64 h.pu, .int .i64 h.br, .int .i64 h.dr, .int .i64 h.lv, .int .i64 h.dO, .int .i64 h.ld, .int .i64 h.qu]) := by rw [hW4]; exact F0.out.alloc _
    have FR : Hid (Blk W4 (w.heap.size + 1) [.int .i64 0, .int .i64 0, .slice none 0 0]) := by rw [hW4]; exact FR.out.alloc _
    have FB : Hid (Below w.heap.size w W4) := by rw [hW4]; exact FB.out.alloc FB.out.size _
    have FO : Hid (OwnE W4 (w.heap.size + 2) (.slice a es.length c) es) := by rw [hW4]; exact ownE_alloc FO.out _
    go_upto_region 8 with fail
    rw [← hW4, ← htb]
    clear hW4 htb
    go_upto_region 11 with (first | (refine load_blk 25 _ Tryz.underlying25 (by kernel_rfl) F0.out rfl rfl rfl ?_) | (go_at_call 20; refine (as_nil _ _).mono ?_; rintro e w5 ⟨rfl, hw⟩; rw [hw]; clear hw) | (go_at_call 10; refine (CT a c _ (ownE_ein FO.out)).mono ?_; rintro e w6 ⟨rfl, hb⟩; have FO : Hid (OwnE w6 (w.heap.size + 2) (.slice a es.length c) es) := FO.out.below hb (fun k hk => (FO.out.lt k hk).2); have F0 : Hid (Blk w6 w.heap.size [.int .i64 h.fl, .int .i64 h.gp, .int .i64 h.ln, .int .i64 h.rf, .int .i64 h.sp, .int .i64 h.pu, .int .i64 h.br, .int .i64 h.dr, .int .i64 h.lv, .int .i64 h.dO, .int .i64 h.ld, .int .i64 h.qu]) := F0.out.below hb F0.out.lt; have FR : Hid (Blk w6 (w.heap.size + 1) [.int .i64 0, .int .i64 0, .slice none 0 0]) := FR.out.below hb FR.out.lt; have FB : Hid (Below w.heap.size w w6) := FB.out.trans (hb.mono FB.out.size); clear hb))
    by_cases hk0 : kt = 0
    · subst hk0
      go_wp2_with (refine store_blk [.int .i64 0, .int .i64 0, .slice a es.length c] 31 _ _ (by kernel_rfl) (by kernel_rfl) (by kernel_rfl) FR.out rfl rfl rfl rfl ?_)
      have FO2 : OwnE (w6.setRow (w.heap.size + 1) #[.int .i64 0, .int .i64 0, .slice a es.length c]) w.heap.size (.slice a es.length c) es := ownE_base (ownE_row FO.out (by omega) _) (by omega)
      exact bodyPost_ret (v := .agg #[.int .i64 0, .int .i64 0, .slice a es.length c]) ((FR.out.row [.int .i64 0, .int .i64 0, .slice a es.length c]).res _ Tryz.results8 Tryz.underlying31 (by kernel_rfl) rfl) rfl ⟨_, rfl, by simpa using FO2, below_row FB.out (by omega) _⟩
    · have hkb : (kt == 0) = false := by simpa using hk0
      go_wp2_with (refine store_blk [.int .i64 kt, .int .i64 0, .slice none 0 0] 31 _ _ (by kernel_rfl) (by kernel_rfl) (by kernel_rfl) FR.out rfl rfl rfl rfl ?_)
      exact bodyPost_ret (v := .agg #[.int .i64 kt, .int .i64 0, .slice none 0 0]) ((FR.out.row [.int .i64 kt, .int .i64 0, .slice none 0 0]).res _ Tryz.results8 Tryz.underlying31 (by kernel_rfl) rfl) rfl ⟨_, rfl, by first | exact ownE_nil _ _ | (rw [if_neg hk0]; exact ownE_nil _ _), below_row FB.out (by omega) _⟩
end Go.Proofs.YtoacnglcneliiaaGreatDoor
