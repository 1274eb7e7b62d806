/-
  Zones that are split serve every floor, and each car waits in its own.
-/
import Derived.Test.YtnpnlckdggakmaaZonSd
import Derived.Test.YtnpnlckdggakmaaZonSc
import Derived.Test.YtnpnlckdggakmaaZonSq
import Derived.Test.YtnpnlckdggakmaaZonU
import Derived.Test.YtnpnlckdggakmaaZonT
import Derived.Test.YtnpnlckdggakmaaZonH
import Derived.Test.YtnpnlckdggakmaaZonX
import Derived.Test.YtnpnlckdggakmaaAt
import Derived.Deep.DeepCutAuto
namespace Go.Proofs.Ytnpnlckdggakmaa
open Go.RowKit Pl
set_option linter.unusedSimpArgs false
set_option linter.unusedVariables false

theorem u64_small {p : Nat} (h : p < 12) : min (IntKind.u64.wrap (p : Int)).toNat 64 = p := by
  have e : IntKind.u64.wrap (p : Int) = (p : Int) := by simp [IntKind.wrap, IntKind.bits, IntKind.signed]; omega
  rw [e]; omega
theorem and_sh {M p : Nat} (hM : M < 4096) (hp : p < 12) (hb : M.testBit p = true) : (bits BinOp.and IntKind.i64 ((M : Int) / 2 ^ min (IntKind.u64.wrap (p : Int)).toNat 64) 1 != 1) = false := by
  rw [u64_small hp, and_bit M p hM hp]; unfold bN; rw [if_pos hb]; rfl
theorem shl_top {n O : Nat} (n12 : n ≤ 12) (hO : 2 ^ n - 1 = O) : wrap64 (wrap64 ((2 : Int) ^ n) - 1) = (O : Int) := by
  have e : (2 : Int) ^ n = ((2 ^ n : Nat) : Int) := by simp
  have a := p12n n12
  have b := Nat.one_le_two_pow (n := n)
  rw [← hO, e]
  generalize 2 ^ n = z at *
  unfold wrap64
  omega
structure C1s (w : World) (b o : Nat) (x : Int) : Prop where
  c : w.cell? ⟨b, o, none⟩ = some (.int .i64 x)
theorem C1s.lt {w : World} {b o : Nat} {x : Int} (a : C1s w b o x) : b < w.heap.size := World.block_lt_of_cell? w _ a.c
theorem C1s.below {W w : World} {b o B : Nat} {x : Int} (a : C1s W b o x) (hb : Below B W w) (hB : b < B) : C1s w b o x := ⟨(hb.cell (p := ⟨b, o, none⟩) hB).trans a.c⟩
theorem fieldI0s (k : Int) (v : Value) (w : World) : (Instr.field 30 (.agg #[.int .i64 k, v]) 0).run Try.prog w = .ok (.int .i64 k) w := by kernel_rfl
set_option maxRecDepth 20000 in
set_option maxHeartbeats 32000000 in
theorem splits_walk (a0 : Option Addr) (len0 cap0 : Nat) (w : World) (hc : CodeIn w w.heap.size a0 len0) (hbig : len0 ≤ 1048576) :
    Calls Try.prog 3 #[.slice a0 len0 cap0] w fun e w' => e = .returned (.bool true) ∧ Below w.heap.size w w' := by
  have HC : Hid (CodeIn w w.heap.size a0 len0) := hc
  clear hc
  go_enter Try.func3, Try.ntmps3
  go_upto_region 4 with (first | (go_at_call 8; refine (lwBig_no _ _ _ hbig _).mono ?_; rintro e w' ⟨rfl, hw⟩; obtain rfl := hw.symm; clear hw) | (go_at_call 9; refine (DrawSplitZones_any a0 len0 cap0 _ HC.out).mono ?_; rintro e w1 ⟨h, cc, rfl, hcc, hb⟩; have FB : Hid (Below w.heap.size w w1) := hb; clear hb) | (refine store_new [.int .i64 h.fl, .int .i64 h.gp, .int .i64 h.ln, .int .i64 h.rf, .int .i64 h.sp, .int .i64 h.pu, .int .i64 h.br, .int .i64 h.dr, .int .i64 h.lv, .int .i64 h.dO, .int .i64 h.ld, .int .i64 h.qu] 25 _ _ (by kernel_rfl) (by kernel_rfl) (by kernel_rfl) rfl rfl rfl rfl ?_))
  clear HC hbig
  have FB0 := FB
  obtain ⟨b0, hbb⟩ : ∃ b0, b0 = w1.heap.size := ⟨_, rfl⟩
  obtain ⟨w2, hw2⟩ : ∃ w2, w2 = w1.alloc (.cells #[.int .i64 h.fl, .int .i64 h.gp, .int .i64 h.ln, .int .i64 h.rf, .int .i64 h.sp, .int .i64 h.pu, .int .i64 h.br, .int .i64 h.dr, .int .i64 h.lv, .int .i64 h.dO, .int .i64 h.ld, .int .i64 h.qu] 25) := ⟨_, rfl⟩
  have F0 : Hid (Blk w2 b0 [.int .i64 h.fl, .int .i64 h.gp, .int .i64 h.ln, .int .i64 h.rf, .int .i64 h.sp, .int .i64 h.pu, .int .i64 h.br, .int .i64 h.dr, .int .i64 h.lv, .int .i64 h.dO, .int .i64 h.ld, .int .i64 h.qu]) := by rw [hw2]; exact Blk.at_ w1 #[.int .i64 h.fl, .int .i64 h.gp, .int .i64 h.ln, .int .i64 h.rf, .int .i64 h.sp, .int .i64 h.pu, .int .i64 h.br, .int .i64 h.dr, .int .i64 h.lv, .int .i64 h.dO, .int .i64 h.ld, .int .i64 h.qu] _ _ hbb
  have FB : Hid (Below w.heap.size w w2) := by rw [hw2]; exact FB.out.alloc FB.out.size _
  have leb0 : w.heap.size ≤ b0 := by rw [hbb]; exact FB0.out.size
  (try simp only [Act.put])
  rw [← hw2, ← hbb]
  clear hbb hw2 FB0
  obtain ⟨kz, hkz⟩ : ∃ kz, h.spK cc = kz := ⟨_, rfl⟩
  obtain ⟨Z, hZ⟩ : ∃ Z, h.spL cc = Z := ⟨_, rfl⟩
  have HKZ : Hid (h.spK cc = kz) := hkz
  have HZ : Hid (h.spL cc = Z) := hZ
  have C1 : ∀ W, Calls Try.prog 10 #[.agg #[.int .i64 h.fl, .int .i64 h.gp, .int .i64 h.ln, .int .i64 h.rf, .int .i64 h.sp, .int .i64 h.pu, .int .i64 h.br, .int .i64 h.dr, .int .i64 h.lv, .int .i64 h.dO, .int .i64 h.ld, .int .i64 h.qu], .int .i64 cc] W fun e w' => (∃ v, e = .returned (.agg #[.int .i64 kz, v]) ∧ OwI w' W.heap.size v Z) ∧ Below W.heap.size W w' := fun W => by have q := implSplit_any h cc W; rw [hkz, hZ] at q; exact q
  have C2 : ∀ W, Calls Try.prog 11 #[.agg #[.int .i64 h.fl, .int .i64 h.gp, .int .i64 h.ln, .int .i64 h.rf, .int .i64 h.sp, .int .i64 h.pu, .int .i64 h.br, .int .i64 h.dr, .int .i64 h.lv, .int .i64 h.dO, .int .i64 h.ld, .int .i64 h.qu], .int .i64 cc] W fun e w' => (∃ v, e = .returned (.agg #[.int .i64 kz, v]) ∧ OwI w' W.heap.size v Z) ∧ Below W.heap.size W w' := fun W => by have q := specSplit_any h cc W; rw [hkz, hZ] at q; exact q
  clear hkz hZ
  go_upto_region 5 with (first | (refine load_blk 25 _ Try.underlying25 (by kernel_rfl) F0.out rfl rfl rfl ?_) | (go_at_call 10; refine (C1 _).mono ?_; rintro e w3 ⟨⟨vv, rfl, ho⟩, hb⟩; obtain ⟨va, vc, rfl⟩ := ho.sl; have FO : Hid (OwI w3 w.heap.size (.slice va Z.length vc) Z) := ho.base FB.out.size; have F0 : Hid (Blk w3 b0 [.int .i64 h.fl, .int .i64 h.gp, .int .i64 h.ln, .int .i64 h.rf, .int .i64 h.sp, .int .i64 h.pu, .int .i64 h.br, .int .i64 h.dr, .int .i64 h.lv, .int .i64 h.dO, .int .i64 h.ld, .int .i64 h.qu]) := F0.out.below hb F0.out.lt; have FB : Hid (Below w.heap.size w w3) := FB.out.trans (hb.mono FB.out.size); clear hb; clear ho) | (refine store_new [.int .i64 kz, .slice va Z.length vc] 30 _ _ (by kernel_rfl) (by kernel_rfl) (by kernel_rfl) rfl rfl rfl rfl ?_))
  have FB0 := FB
  obtain ⟨b1, hbb⟩ : ∃ b1, b1 = w3.heap.size := ⟨_, rfl⟩
  obtain ⟨w4, hw2⟩ : ∃ w4, w4 = w3.alloc (.cells #[.int .i64 kz, .slice va Z.length vc] 30) := ⟨_, rfl⟩
  have nb1b0 : b0 < b1 := by rw [hbb]; exact F0.out.lt
  have F0 : Hid (Blk w4 b0 [.int .i64 h.fl, .int .i64 h.gp, .int .i64 h.ln, .int .i64 h.rf, .int .i64 h.sp, .int .i64 h.pu, .int .i64 h.br, .int .i64 h.dr, .int .i64 h.lv, .int .i64 h.dO, .int .i64 h.ld, .int .i64 h.qu]) := by rw [hw2]; exact F0.out.alloc _
  have F1 : Hid (Blk w4 b1 [.int .i64 kz, .slice va Z.length vc]) := by rw [hw2]; exact Blk.at_ w3 #[.int .i64 kz, .slice va Z.length vc] _ _ hbb
  have FO : Hid (OwI w4 w.heap.size (.slice va Z.length vc) Z) := by rw [hw2]; exact FO.out.alloc _
  have FB : Hid (Below w.heap.size w w4) := by rw [hw2]; exact FB.out.alloc FB.out.size _
  have leb1 : w.heap.size ≤ b1 := by rw [hbb]; exact FB0.out.size
  (try simp only [Act.put])
  rw [← hw2, ← hbb]
  clear hbb hw2 FB0
  have z0 := F1.out.c 0 _ rfl
  by_cases hk : kz = 0
  case neg =>
    have hn : (kz != 0) = true := by simpa using hk
    have hee : (kz == kz) = true := by simp
    have fi := fieldI0s
    clear hk
    go_upto_region 6 with fail
    clear z0
    have F0 : Hid (Blk w4.drew b0 [.int .i64 h.fl, .int .i64 h.gp, .int .i64 h.ln, .int .i64 h.rf, .int .i64 h.sp, .int .i64 h.pu, .int .i64 h.br, .int .i64 h.dr, .int .i64 h.lv, .int .i64 h.dO, .int .i64 h.ld, .int .i64 h.qu]) := F0.out.below (Below.refl _ _).drew F0.out.lt
    have F1 : Hid (Blk w4.drew b1 [.int .i64 kz, .slice va Z.length vc]) := F1.out.below (Below.refl _ _).drew F1.out.lt
    have FB : Hid (Below w.heap.size w w4.drew) := FB.out.drew
    refine wp_region_held_drew (S := (fun w'' => Blk w'' b0 ([.int .i64 h.fl, .int .i64 h.gp, .int .i64 h.ln, .int .i64 h.rf, .int .i64 h.sp, .int .i64 h.pu, .int .i64 h.br, .int .i64 h.dr, .int .i64 h.lv, .int .i64 h.dO, .int .i64 h.ld, .int .i64 h.qu]) ∧ Blk w'' b1 ([.int .i64 kz, .slice va Z.length vc]))) (by kernel_rfl) (by (try dsimp only); first | exact ⟨F0.out, F1.out⟩ | go_keep) (fun hHeld => ?_)
    obtain ⟨v_1, hw1⟩ : ∃ v_1, v_1 = w4.drew := ⟨_, rfl⟩
    have F0 : Hid (Blk v_1 b0 [.int .i64 h.fl, .int .i64 h.gp, .int .i64 h.ln, .int .i64 h.rf, .int .i64 h.sp, .int .i64 h.pu, .int .i64 h.br, .int .i64 h.dr, .int .i64 h.lv, .int .i64 h.dO, .int .i64 h.ld, .int .i64 h.qu]) := by rw [hw1]; exact F0.out
    have F1 : Hid (Blk v_1 b1 [.int .i64 kz, .slice va Z.length vc]) := by rw [hw1]; exact F1.out
    have FB : Hid (Below w.heap.size w v_1) := by rw [hw1]; exact FB.out
    rw [← hw1] at hHeld ⊢
    clear hw1
    refine tkz 0 rfl ?_ (hy := Or.inl ⟨by kernel_rfl, fun wx hSw => exec_load_blk 25 _ Try.underlying25 (by kernel_rfl) rfl rfl hSw.1⟩)
    refine tkz 1 rfl ?_
    refine tkz 4 rfl ?_
    refine tkz 5 rfl ?_ (hy := Or.inl ⟨by kernel_rfl, by (intro wx hSw; have hq1_0 := hSw.2.c 0 _ rfl; (try dsimp only at hSw); go_simp <;> with_reducible rfl)⟩)
    refine wpAnyH_ready (rs := [2]) (by kernel_rfl) (by simp) ?_
    refine (AllReadyH.cons rfl (fun K hK => ?_) AllReadyH.nil)
    go_simp
    refine (C2 _).mono ?_
    rintro e v_2 ⟨⟨vv, rfl, ho⟩, hb⟩
    have F0 : Hid (Blk v_2 b0 [.int .i64 h.fl, .int .i64 h.gp, .int .i64 h.ln, .int .i64 h.rf, .int .i64 h.sp, .int .i64 h.pu, .int .i64 h.br, .int .i64 h.dr, .int .i64 h.lv, .int .i64 h.dO, .int .i64 h.ld, .int .i64 h.qu]) := F0.out.below hb F0.out.lt
    have F1 : Hid (Blk v_2 b1 [.int .i64 kz, .slice va Z.length vc]) := F1.out.below hb F1.out.lt
    have FB : Hid (Below w.heap.size w v_2) := FB.out.trans (hb.mono FB.out.size)
    clear hb
    try dsimp only
    refine hK.out _ _ (by (try dsimp only); first | exact ⟨F0.out, F1.out⟩ | go_keep) (fun hHeld => ?_)
    clear hK K
    try simp only [Act.put, List.getElem_toArray, List.getElem_cons_succ, List.getElem_cons_zero, List.setIfInBounds_toArray, List.set_cons_zero, List.set_cons_succ]
    refine tkz 3 rfl ?_
    refine tkz 6 rfl ?_
    refine tkz 7 rfl ?_
    refine wpAnyH_done (by kernel_rfl) ?_ _
    go_wp2
    go_ret
    exact ⟨by first | rfl | simp, FB.out⟩
  case pos =>
  subst hk
  obtain ⟨hf, c, ecc, c1, c6, eZ⟩ := spK_zero HKZ.out
  have HCC : Hid (cc = (c : Int)) := ecc
  clear ecc
  have eZ2 : splitL h.fl.toNat c = Z := by rw [← eZ]; exact HZ.out
  have fb := fl_of hf
  obtain ⟨n, hnn⟩ : ∃ n : Nat, h.fl = (n : Int) := ⟨h.fl.toNat, by omega⟩
  have en : h.fl.toNat = n := by omega
  have HFl : Hid (h.fl = (n : Int)) := hnn
  have n2 : 2 ≤ n := by omega
  have n12 : n ≤ 12 := by omega
  have hzk := split_zones hf c1 c6
  have hon := once_split (n := n) (c := c) n2 c1
  have htw := fun f => two_once (natL (splitL n c)) f
  have hsv : ∀ f : Nat, 1 ≤ f → f < n → (h.svL Z 0 (f : Int)).length ≠ 0 := fun f f1 f2 => by rw [← eZ2]; exact split_served hf c1 c6 f1 (by omega)
  have hpk : ∀ k, k < c → ∃ p M : Nat, (Hs.pkL h Z)[k]? = some (p : Int) ∧ p < 12 ∧ Z[k]? = some (M : Int) ∧ M.testBit p = true ∧ M < 4096 := fun k hk => by
    obtain ⟨p, q1, q2, q3, q4⟩ := split_parks hf c1 c6 hk
    exact ⟨p, _, by rw [← eZ2]; exact q1, q2, by rw [← eZ2]; exact splitL_get hk, q3, q4⟩
  have hpl : (Hs.pkL h Z).length = c := by rw [← eZ2]; exact parks_len hf c1 c6
  have hzl : Z.length = c := by rw [← eZ2]; exact splitL_len _ _
  have ht1 : c = 1 → (twoN (natL (splitL n c))).2 = 0 := fun e => by rw [e]; exact two_one n2
  have ht2 : ¬ c = 1 → (twoN (natL (splitL n c))).2 ≠ 0 := fun e => two_more n2 (by omega)
  rw [en] at eZ2 hzk
  rw [eZ2] at hzk hon htw ht1 ht2
  have hl2 := twoN_lt (natL_lt hzk (k := Z.length))
  rw [List.take_length] at hl2
  obtain ⟨S, hS⟩ : ∃ S, (twoN (natL Z)).2 = S := ⟨_, rfl⟩
  rw [hS] at htw ht1 ht2 hl2
  have o4 : 2 ^ n - 1 < 4096 := by have := p12n n12; have := Nat.one_le_two_pow (n := n); omega
  obtain ⟨O, hO⟩ : ∃ O, 2 ^ n - 1 = O := ⟨_, rfl⟩
  rw [hon, hO] at htw
  rw [hO] at hon o4
  have eAN : bits BinOp.andNot IntKind.i64 (S : Int) (O : Int) = 0 := andn_zero hl2.2 o4 htw
  obtain ⟨SI, hSI⟩ : ∃ SI, (S : Int) = SI := ⟨_, rfl⟩
  obtain ⟨OI, hOI⟩ : ∃ OI, (O : Int) = OI := ⟨_, rfl⟩
  rw [hSI, hOI] at eAN
  have eSH : wrap64 (wrap64 ((2 : Int) ^ n) - 1) = OI := by rw [← hOI]; exact shl_top n12 hO
  obtain ⟨P, hP⟩ : ∃ P, Hs.pkL h Z = P := ⟨_, rfl⟩
  rw [hP] at hpk hpl
  have CC : ∀ W, IIn W va Z → Calls Try.prog 12 #[.agg #[.int .i64 h.fl, .int .i64 h.gp, .int .i64 h.ln, .int .i64 h.rf, .int .i64 h.sp, .int .i64 h.pu, .int .i64 h.br, .int .i64 h.dr, .int .i64 h.lv, .int .i64 h.dO, .int .i64 h.ld, .int .i64 h.qu], .slice va Z.length vc] W fun e w' => e = .returned (.agg #[.int .i64 0, .int .i64 OI]) ∧ Below W.heap.size W w' := fun W hW => by
    have q := implCover_any h Z va vc (by omega) W hW
    have e1 : Hs.cvV h Z = OI := by unfold Hs.cvV; rw [if_pos hzk, hon, hOI]
    rw [hzk, e1] at q; exact q
  have CH : ∀ W, IIn W va Z → Calls Try.prog 15 #[.agg #[.int .i64 h.fl, .int .i64 h.gp, .int .i64 h.ln, .int .i64 h.rf, .int .i64 h.sp, .int .i64 h.pu, .int .i64 h.br, .int .i64 h.dr, .int .i64 h.lv, .int .i64 h.dO, .int .i64 h.ld, .int .i64 h.qu], .slice va Z.length vc] W fun e w' => e = .returned (.agg #[.int .i64 0, .int .i64 SI]) ∧ Below W.heap.size W w' := fun W hW => by
    have q := implShared_any h Z va vc (by omega) W hW
    have e1 : Hs.shV h Z = SI := by unfold Hs.shV; rw [if_pos hzk, hS, hSI]
    rw [hzk, e1] at q; exact q
  have CP : ∀ W, IIn W va Z → Calls Try.prog 13 #[.agg #[.int .i64 h.fl, .int .i64 h.gp, .int .i64 h.ln, .int .i64 h.rf, .int .i64 h.sp, .int .i64 h.pu, .int .i64 h.br, .int .i64 h.dr, .int .i64 h.lv, .int .i64 h.dO, .int .i64 h.ld, .int .i64 h.qu], .slice va Z.length vc] W fun e w' => (∃ v, e = .returned (.agg #[.int .i64 0, v]) ∧ OwI w' W.heap.size v P) ∧ Below W.heap.size W w' := fun W hW => by
    have q := implPark_any h Z va vc (by omega) W hW
    rw [hzk, hP] at q; exact q
  have CV : ∀ W (f : Nat), 1 ≤ f → f < n → IIn W va Z → Calls Try.prog 14 #[.agg #[.int .i64 h.fl, .int .i64 h.gp, .int .i64 h.ln, .int .i64 h.rf, .int .i64 h.sp, .int .i64 h.pu, .int .i64 h.br, .int .i64 h.dr, .int .i64 h.lv, .int .i64 h.dO, .int .i64 h.ld, .int .i64 h.qu], .slice va Z.length vc, .int .i64 0, .int .i64 (f : Int)] W fun e w' => (∃ K ga gc u, e = .returned (.agg #[.int .i64 K, .slice ga (u + 1) gc])) ∧ Below W.heap.size W w' := fun W f f1 f2 hW => by
    refine (implServed_any h Z 0 (f : Int) va vc (by omega) W hW).mono ?_
    rintro e w' ⟨⟨v, rfl, ho⟩, hb⟩
    obtain ⟨ga, gc, rfl⟩ := ho.sl
    have := hsv f f1 f2
    obtain ⟨u, hu⟩ : ∃ u, (h.svL Z 0 (f : Int)).length = u + 1 := ⟨(h.svL Z 0 (f : Int)).length - 1, by omega⟩
    rw [hu]
    exact ⟨⟨_, ga, gc, u, rfl⟩, hb⟩
  have HPK : Hid (∀ k, k < c → ∃ p M : Nat, P[k]? = some (p : Int) ∧ p < 12 ∧ Z[k]? = some (M : Int) ∧ M.testBit p = true ∧ M < 4096) := hpk
  have HT1 : Hid (c = 1 → SI = 0) := fun e => by rw [← hSI, ht1 e]; rfl
  have HT2 : Hid (¬ c = 1 → ¬ SI = 0) := fun e => by have := ht2 e; omega
  have HZL : Hid (Z.length = c) := hzl
  have HPL : Hid (P.length = c) := hpl
  clear hpk ht1 ht2 hzl hpl hO hon htw hsv hl2 hS hP hzk hSI hOI o4 eZ2 en hnn fb eZ HKZ HZ C1 C2
  have z1 := F1.out.c 1 _ rfl
  go_upto_region 8 with (first | (refine load_blk 25 _ Try.underlying25 (by kernel_rfl) F0.out rfl rfl rfl ?_) | (go_at_call 12; refine (CC _ FO.out.iin).mono ?_; rintro e w5 ⟨rfl, hb⟩; have FO : Hid (OwI w5 w.heap.size (.slice va Z.length vc) Z) := FO.out.below hb (fun k hk => (FO.out.lt k hk).2); have F0 : Hid (Blk w5 b0 [.int .i64 h.fl, .int .i64 h.gp, .int .i64 h.ln, .int .i64 h.rf, .int .i64 h.sp, .int .i64 h.pu, .int .i64 h.br, .int .i64 h.dr, .int .i64 h.lv, .int .i64 h.dO, .int .i64 h.ld, .int .i64 h.qu]) := F0.out.below hb F0.out.lt; have F1 : Hid (Blk w5 b1 [.int .i64 0, .slice va Z.length vc]) := F1.out.below hb F1.out.lt; have FB : Hid (Below w.heap.size w w5) := FB.out.trans (hb.mono FB.out.size); clear hb) | (refine store_new [.int .i64 0, .int .i64 OI] 33 _ _ (by kernel_rfl) (by kernel_rfl) (by kernel_rfl) rfl rfl rfl rfl ?_))
  have FB0 := FB
  obtain ⟨b2, hbb⟩ : ∃ b2, b2 = w5.heap.size := ⟨_, rfl⟩
  obtain ⟨w6, hw2⟩ : ∃ w6, w6 = w5.alloc (.cells #[.int .i64 0, .int .i64 OI] 33) := ⟨_, rfl⟩
  have nb2b0 : b0 < b2 := by rw [hbb]; exact F0.out.lt
  have nb2b1 : b1 < b2 := by rw [hbb]; exact F1.out.lt
  have F0 : Hid (Blk w6 b0 [.int .i64 h.fl, .int .i64 h.gp, .int .i64 h.ln, .int .i64 h.rf, .int .i64 h.sp, .int .i64 h.pu, .int .i64 h.br, .int .i64 h.dr, .int .i64 h.lv, .int .i64 h.dO, .int .i64 h.ld, .int .i64 h.qu]) := by rw [hw2]; exact F0.out.alloc _
  have F1 : Hid (Blk w6 b1 [.int .i64 0, .slice va Z.length vc]) := by rw [hw2]; exact F1.out.alloc _
  have F2 : Hid (Blk w6 b2 [.int .i64 0, .int .i64 OI]) := by rw [hw2]; exact Blk.at_ w5 #[.int .i64 0, .int .i64 OI] _ _ hbb
  have FO : Hid (OwI w6 w.heap.size (.slice va Z.length vc) Z) := by rw [hw2]; exact FO.out.alloc _
  have FB : Hid (Below w.heap.size w w6) := by rw [hw2]; exact FB.out.alloc FB.out.size _
  have leb2 : w.heap.size ≤ b2 := by rw [hbb]; exact FB0.out.size
  (try simp only [Act.put])
  rw [← hw2, ← hbb]
  clear hbb hw2 FB0
  clear z1 z0
  have z1 := F1.out.c 1 _ rfl
  go_upto_region 9 with (first | (refine load_blk 25 _ Try.underlying25 (by kernel_rfl) F0.out rfl rfl rfl ?_) | (go_at_call 13; refine (CP _ FO.out.iin).mono ?_; rintro e w7 ⟨⟨vv, rfl, ho⟩, hb⟩; obtain ⟨pa, pc, rfl⟩ := ho.sl; have FP : Hid (OwI w7 w.heap.size (.slice pa P.length pc) P) := ho.base FB.out.size; have FO : Hid (OwI w7 w.heap.size (.slice va Z.length vc) Z) := FO.out.below hb (fun k hk => (FO.out.lt k hk).2); have F0 : Hid (Blk w7 b0 [.int .i64 h.fl, .int .i64 h.gp, .int .i64 h.ln, .int .i64 h.rf, .int .i64 h.sp, .int .i64 h.pu, .int .i64 h.br, .int .i64 h.dr, .int .i64 h.lv, .int .i64 h.dO, .int .i64 h.ld, .int .i64 h.qu]) := F0.out.below hb F0.out.lt; have F1 : Hid (Blk w7 b1 [.int .i64 0, .slice va Z.length vc]) := F1.out.below hb F1.out.lt; have F2 : Hid (Blk w7 b2 [.int .i64 0, .int .i64 OI]) := F2.out.below hb F2.out.lt; have FB : Hid (Below w.heap.size w w7) := FB.out.trans (hb.mono FB.out.size); clear hb; clear ho) | (refine store_new [.int .i64 0, .slice pa P.length pc] 30 _ _ (by kernel_rfl) (by kernel_rfl) (by kernel_rfl) rfl rfl rfl rfl ?_))
  have FB0 := FB
  obtain ⟨b3, hbb⟩ : ∃ b3, b3 = w7.heap.size := ⟨_, rfl⟩
  obtain ⟨w8, hw2⟩ : ∃ w8, w8 = w7.alloc (.cells #[.int .i64 0, .slice pa P.length pc] 30) := ⟨_, rfl⟩
  have nb3b0 : b0 < b3 := by rw [hbb]; exact F0.out.lt
  have nb3b1 : b1 < b3 := by rw [hbb]; exact F1.out.lt
  have nb3b2 : b2 < b3 := by rw [hbb]; exact F2.out.lt
  have F0 : Hid (Blk w8 b0 [.int .i64 h.fl, .int .i64 h.gp, .int .i64 h.ln, .int .i64 h.rf, .int .i64 h.sp, .int .i64 h.pu, .int .i64 h.br, .int .i64 h.dr, .int .i64 h.lv, .int .i64 h.dO, .int .i64 h.ld, .int .i64 h.qu]) := by rw [hw2]; exact F0.out.alloc _
  have F1 : Hid (Blk w8 b1 [.int .i64 0, .slice va Z.length vc]) := by rw [hw2]; exact F1.out.alloc _
  have F2 : Hid (Blk w8 b2 [.int .i64 0, .int .i64 OI]) := by rw [hw2]; exact F2.out.alloc _
  have F3 : Hid (Blk w8 b3 [.int .i64 0, .slice pa P.length pc]) := by rw [hw2]; exact Blk.at_ w7 #[.int .i64 0, .slice pa P.length pc] _ _ hbb
  have FO : Hid (OwI w8 w.heap.size (.slice va Z.length vc) Z) := by rw [hw2]; exact FO.out.alloc _
  have FP : Hid (OwI w8 w.heap.size (.slice pa P.length pc) P) := by rw [hw2]; exact FP.out.alloc _
  have FB : Hid (Below w.heap.size w w8) := by rw [hw2]; exact FB.out.alloc FB.out.size _
  have leb3 : w.heap.size ≤ b3 := by rw [hbb]; exact FB0.out.size
  (try simp only [Act.put])
  rw [← hw2, ← hbb]
  clear hbb hw2 FB0
  clear z1 CC CP
  have x21 := F2.out.c 1 _ rfl
  have x00 := F0.out.c 0 _ rfl
  have x11 := F1.out.c 1 _ rfl
  have x31 := F3.out.c 1 _ rfl
  rw [HFl.out] at x00
  have pl6 : P.length ≤ 6 := by have := HPL.out; omega
  have zl6 : Z.length ≤ 6 := by have := HZL.out; omega
  have hz' : (Z.length : Int) = cc := by have := HZL.out; rw [HCC.out]; omega
  have hp' : (P.length : Int) = cc := by have := HPL.out; rw [HCC.out]; omega
  go_upto_region 11 with fail
  clear hz' hp' x21 x00 x11 x31 eSH
  go_wp2_with fail
  go_loopw [8] (fun ii wr => ∃ f : Nat, ii = .int .i64 (f : Int) ∧ 1 ≤ f ∧ f ≤ n ∧ OwI wr w.heap.size (.slice va Z.length vc) Z ∧ OwI wr w.heap.size (.slice pa P.length pc) P ∧ Blk wr b0 [.int .i64 h.fl, .int .i64 h.gp, .int .i64 h.ln, .int .i64 h.rf, .int .i64 h.sp, .int .i64 h.pu, .int .i64 h.br, .int .i64 h.dr, .int .i64 h.lv, .int .i64 h.dO, .int .i64 h.ld, .int .i64 h.qu] ∧ Blk wr b1 [.int .i64 0, .slice va Z.length vc] ∧ Blk wr b2 [.int .i64 0, .int .i64 OI] ∧ Blk wr b3 [.int .i64 0, .slice pa P.length pc] ∧ Below w.heap.size w wr) (fun ii _ => n - (intOf ii).toNat)
  case atStart => exact ⟨1, rfl, by omega, by omega, FO.out, FP.out, F0.out, F1.out, F2.out, F3.out, FB.out⟩
  case round =>
    obtain ⟨f, rfl, f1, f2, ho, hp, h_F0, h_F1, h_F2, h_F3, hB⟩ := hrel
    clear F0 F1 F2 F3 FB FO FP
    have F0 : Hid (Blk wr b0 [.int .i64 h.fl, .int .i64 h.gp, .int .i64 h.ln, .int .i64 h.rf, .int .i64 h.sp, .int .i64 h.pu, .int .i64 h.br, .int .i64 h.dr, .int .i64 h.lv, .int .i64 h.dO, .int .i64 h.ld, .int .i64 h.qu]) := h_F0
    have F1 : Hid (Blk wr b1 [.int .i64 0, .slice va Z.length vc]) := h_F1
    have F2 : Hid (Blk wr b2 [.int .i64 0, .int .i64 OI]) := h_F2
    have F3 : Hid (Blk wr b3 [.int .i64 0, .slice pa P.length pc]) := h_F3
    have FB : Hid (Below w.heap.size w wr) := hB
    clear h_F0 h_F1 h_F2 h_F3 hB
    have FO : Hid (OwI wr w.heap.size (.slice va Z.length vc) Z) := ho
    have FP : Hid (OwI wr w.heap.size (.slice pa P.length pc) P) := hp
    clear ho hp
    have x00 := F0.out.c 0 _ rfl
    have x11 := F1.out.c 1 _ rfl
    rw [HFl.out] at x00
    by_cases hlt : f < n
    · have hd : decide ((f : Int) < (n : Int)) = true := decide_eq_true (by omega)
      go_wp2_with (first | (refine load_blk 25 _ Try.underlying25 (by kernel_rfl) F0.out rfl rfl rfl ?_) | (go_at_call 14; refine (CV _ f f1 hlt FO.out.iin).mono ?_; rintro e w9 ⟨⟨K1, ga, gc, u, rfl⟩, hb⟩; have ff : ∀ W : World, (Instr.field 30 (.agg #[.int .i64 K1, .slice ga (u + 1) gc]) 1).run Try.prog W = .ok (.slice ga (u + 1) gc) W := fun W => (by kernel_rfl); have hu1 : (((u + 1 : Nat) : Int) == 0) = false := (by simp; omega); have hu2 : (((u : Int) + 1) == 0) = false := (by simp; omega); have hu3 : ¬ ((u : Int) + 1 = 0) := (by omega); have FO : Hid (OwI w9 w.heap.size (.slice va Z.length vc) Z) := FO.out.below hb (fun k hk => (FO.out.lt k hk).2); have FP : Hid (OwI w9 w.heap.size (.slice pa P.length pc) P) := FP.out.below hb (fun k hk => (FP.out.lt k hk).2); have F0 : Hid (Blk w9 b0 [.int .i64 h.fl, .int .i64 h.gp, .int .i64 h.ln, .int .i64 h.rf, .int .i64 h.sp, .int .i64 h.pu, .int .i64 h.br, .int .i64 h.dr, .int .i64 h.lv, .int .i64 h.dO, .int .i64 h.ld, .int .i64 h.qu]) := F0.out.below hb F0.out.lt; have F1 : Hid (Blk w9 b1 [.int .i64 0, .slice va Z.length vc]) := F1.out.below hb F1.out.lt; have F2 : Hid (Blk w9 b2 [.int .i64 0, .int .i64 OI]) := F2.out.below hb F2.out.lt; have F3 : Hid (Blk w9 b3 [.int .i64 0, .slice pa P.length pc]) := F3.out.below hb F3.out.lt; have FB : Hid (Below w.heap.size w w9) := FB.out.trans (hb.mono FB.out.size); clear hb))
      go_roundw
      case rel => exact ⟨f + 1, by simp, by omega, by omega, FO.out, FP.out, F0.out, F1.out, F2.out, F3.out, FB.out⟩
      case measure => simp [intOf]; omega
    · have hd : decide ((f : Int) < (n : Int)) = false := decide_eq_false (by omega)
      clear CV f1 x11
      go_wp2_with fail
      clear x00 hd hlt f2
      go_loopw [9] (fun ii wr => ∃ i : Nat, ii = .int .i64 (i : Int) ∧ i ≤ P.length ∧ OwI wr w.heap.size (.slice va Z.length vc) Z ∧ OwI wr w.heap.size (.slice pa P.length pc) P ∧ Blk wr b0 [.int .i64 h.fl, .int .i64 h.gp, .int .i64 h.ln, .int .i64 h.rf, .int .i64 h.sp, .int .i64 h.pu, .int .i64 h.br, .int .i64 h.dr, .int .i64 h.lv, .int .i64 h.dO, .int .i64 h.ld, .int .i64 h.qu] ∧ Blk wr b1 [.int .i64 0, .slice va Z.length vc] ∧ Blk wr b2 [.int .i64 0, .int .i64 OI] ∧ Blk wr b3 [.int .i64 0, .slice pa P.length pc] ∧ Below w.heap.size w wr) (fun ii _ => P.length - (intOf ii).toNat)
      case atStart => exact ⟨0, rfl, by omega, FO.out, FP.out, F0.out, F1.out, F2.out, F3.out, FB.out⟩
      case round =>
        obtain ⟨i, rfl, hi, ho, hp, h_F0, h_F1, h_F2, h_F3, hB⟩ := hrel
        clear F0 F1 F2 F3 FB FO FP
        have F0 : Hid (Blk wr b0 [.int .i64 h.fl, .int .i64 h.gp, .int .i64 h.ln, .int .i64 h.rf, .int .i64 h.sp, .int .i64 h.pu, .int .i64 h.br, .int .i64 h.dr, .int .i64 h.lv, .int .i64 h.dO, .int .i64 h.ld, .int .i64 h.qu]) := h_F0
        have F1 : Hid (Blk wr b1 [.int .i64 0, .slice va Z.length vc]) := h_F1
        have F2 : Hid (Blk wr b2 [.int .i64 0, .int .i64 OI]) := h_F2
        have F3 : Hid (Blk wr b3 [.int .i64 0, .slice pa P.length pc]) := h_F3
        have FB : Hid (Below w.heap.size w wr) := hB
        clear h_F0 h_F1 h_F2 h_F3 hB
        have x31 := F3.out.c 1 _ rfl
        by_cases hlt : i < P.length
        · have hd : decide ((i : Int) < (P.length : Int)) = true := decide_eq_true (by omega)
          obtain ⟨p, M, hpi, p12, hzi, hbit, hM⟩ := HPK.out i (by have := HPL.out; omega)
          have hlz : i < Z.length := by have := HPL.out; have := HZL.out; omega
          have hp3 : (0 : Int) ≤ (p : Int) := by omega
          rcases hp.cases with ⟨_, h0⟩ | ⟨gp, gpc, e⟩
          · rw [h0] at hlt; simp at hlt
          injection e with e1 e2 e3
          subst e1
          rcases ho.cases with ⟨_, h0⟩ | ⟨gz, gzc, e⟩
          · rw [h0] at hlz; simp at hlz
          injection e with e1 e4 e5
          subst e1
          clear e2 e3 e4 e5
          have FX : Hid (C1s wr gp i (p : Int)) := ⟨hp.cell hpi⟩
          have FY : Hid (C1s wr gz i (M : Int)) := ⟨ho.cell hzi⟩
          have FO : Hid (OwI wr w.heap.size (.slice (some ⟨gz, 0, none⟩) Z.length vc) Z) := ho
          have FP : Hid (OwI wr w.heap.size (.slice (some ⟨gp, 0, none⟩) P.length pc) P) := hp
          have eA := and_sh hM p12 hbit
          have hi3 : (i : Int) < (P.length : Int) := by omega
          have hi4 : (i : Int) < (Z.length : Int) := by omega
          clear hbit hpi hzi ho hp
          go_upto_region 19 with fail
          clear x31
          have F0 : Hid (Blk wr.drew b0 [.int .i64 h.fl, .int .i64 h.gp, .int .i64 h.ln, .int .i64 h.rf, .int .i64 h.sp, .int .i64 h.pu, .int .i64 h.br, .int .i64 h.dr, .int .i64 h.lv, .int .i64 h.dO, .int .i64 h.ld, .int .i64 h.qu]) := F0.out.below (Below.refl _ _).drew F0.out.lt
          have F1 : Hid (Blk wr.drew b1 [.int .i64 0, .slice (some ⟨gz, 0, none⟩) Z.length vc]) := F1.out.below (Below.refl _ _).drew F1.out.lt
          have F2 : Hid (Blk wr.drew b2 [.int .i64 0, .int .i64 OI]) := F2.out.below (Below.refl _ _).drew F2.out.lt
          have F3 : Hid (Blk wr.drew b3 [.int .i64 0, .slice (some ⟨gp, 0, none⟩) P.length pc]) := F3.out.below (Below.refl _ _).drew F3.out.lt
          have FB : Hid (Below w.heap.size w wr.drew) := FB.out.drew
          have FO : Hid (OwI wr.drew w.heap.size (.slice (some ⟨gz, 0, none⟩) Z.length vc) Z) := FO.out.drew
          have FP : Hid (OwI wr.drew w.heap.size (.slice (some ⟨gp, 0, none⟩) P.length pc) P) := FP.out.drew
          have FX : Hid (C1s wr.drew gp i (p : Int)) := FX.out.below (Below.refl _ _).drew FX.out.lt
          have FY : Hid (C1s wr.drew gz i (M : Int)) := FY.out.below (Below.refl _ _).drew FY.out.lt
          have cz := FY.out.c
          have cp := FX.out.c
          refine wp_region_held_drew (S := (fun w'' => Blk w'' b1 ([.int .i64 0, .slice (some ⟨gz, 0, none⟩) Z.length vc]) ∧ Blk w'' b3 ([.int .i64 0, .slice (some ⟨gp, 0, none⟩) P.length pc]) ∧ w''.cell? ⟨gz, i, none⟩ = some (.int .i64 (M : Int)) ∧ w''.cell? ⟨gp, i, none⟩ = some (.int .i64 (p : Int)))) (by kernel_rfl) (by (try dsimp only); first | exact ⟨F1.out, F3.out, cz, cp⟩ | go_keep) (fun hHeld => ?_)
          obtain ⟨v_3, hw1⟩ : ∃ v_3, v_3 = wr.drew := ⟨_, rfl⟩
          have F0 : Hid (Blk v_3 b0 [.int .i64 h.fl, .int .i64 h.gp, .int .i64 h.ln, .int .i64 h.rf, .int .i64 h.sp, .int .i64 h.pu, .int .i64 h.br, .int .i64 h.dr, .int .i64 h.lv, .int .i64 h.dO, .int .i64 h.ld, .int .i64 h.qu]) := by rw [hw1]; exact F0.out
          have F1 : Hid (Blk v_3 b1 [.int .i64 0, .slice (some ⟨gz, 0, none⟩) Z.length vc]) := by rw [hw1]; exact F1.out
          have F2 : Hid (Blk v_3 b2 [.int .i64 0, .int .i64 OI]) := by rw [hw1]; exact F2.out
          have F3 : Hid (Blk v_3 b3 [.int .i64 0, .slice (some ⟨gp, 0, none⟩) P.length pc]) := by rw [hw1]; exact F3.out
          have FB : Hid (Below w.heap.size w v_3) := by rw [hw1]; exact FB.out
          have FO : Hid (OwI v_3 w.heap.size (.slice (some ⟨gz, 0, none⟩) Z.length vc) Z) := by rw [hw1]; exact FO.out
          have FP : Hid (OwI v_3 w.heap.size (.slice (some ⟨gp, 0, none⟩) P.length pc) P) := by rw [hw1]; exact FP.out
          have FX : Hid (C1s v_3 gp i (p : Int)) := by rw [hw1]; exact FX.out
          have FY : Hid (C1s v_3 gz i (M : Int)) := by rw [hw1]; exact FY.out
          rw [← hw1] at hHeld ⊢
          clear hw1
          have cz := FY.out.c
          have cp := FX.out.c
          refine tkz 0 rfl ?_
          refine tkz 1 rfl ?_ (hy := Or.inl ⟨by kernel_rfl, by (intro wx hSw; have hq0_1 := hSw.1.c 1 _ rfl; (try dsimp only at hSw); go_simp <;> with_reducible rfl)⟩)
          refine tkz 2 rfl ?_
          refine tkz 3 rfl ?_
          refine tkz 4 rfl ?_
          refine tkz 5 rfl ?_
          refine tkz 6 rfl ?_ (hy := Or.inl ⟨by kernel_rfl, by (intro wx hSw; have hq1_1 := hSw.2.1.c 1 _ rfl; (try dsimp only at hSw); go_simp <;> with_reducible rfl)⟩)
          refine tkz 7 rfl ?_
          refine tkz 8 rfl ?_
          refine tkz 9 rfl ?_
          refine tkz 10 rfl ?_
          refine tkz 11 rfl ?_
          refine tkz 12 rfl ?_
          refine tkz 13 rfl ?_
          refine wpAnyH_done (by kernel_rfl) ?_ _
          go_wp2_with fail
          go_roundw
          case rel => exact ⟨i + 1, by simp, by omega, FO.out, FP.out, F0.out, F1.out, F2.out, F3.out, FB.out⟩
          case measure => simp [intOf]; omega
        · have hd : decide ((i : Int) < (P.length : Int)) = false := decide_eq_false (by omega)
          have FO : Hid (OwI wr w.heap.size (.slice va Z.length vc) Z) := ho
          have x11 := F1.out.c 1 _ rfl
          go_upto_region 22 with (first | (refine load_blk 25 _ Try.underlying25 (by kernel_rfl) F0.out rfl rfl rfl ?_) | (go_at_call 15; refine (CH _ FO.out.iin).mono ?_; rintro e w9 ⟨rfl, hb⟩; have F0 : Hid (Blk w9 b0 [.int .i64 h.fl, .int .i64 h.gp, .int .i64 h.ln, .int .i64 h.rf, .int .i64 h.sp, .int .i64 h.pu, .int .i64 h.br, .int .i64 h.dr, .int .i64 h.lv, .int .i64 h.dO, .int .i64 h.ld, .int .i64 h.qu]) := F0.out.below hb F0.out.lt; have F1 : Hid (Blk w9 b1 [.int .i64 0, .slice va Z.length vc]) := F1.out.below hb F1.out.lt; have F2 : Hid (Blk w9 b2 [.int .i64 0, .int .i64 OI]) := F2.out.below hb F2.out.lt; have F3 : Hid (Blk w9 b3 [.int .i64 0, .slice pa P.length pc]) := F3.out.below hb F3.out.lt; have FB : Hid (Below w.heap.size w w9) := FB.out.trans (hb.mono FB.out.size); clear hb) | (refine store_new [.int .i64 0, .int .i64 SI] 33 _ _ (by kernel_rfl) (by kernel_rfl) (by kernel_rfl) rfl rfl rfl rfl ?_))
          have FB0 := FB
          obtain ⟨b4, hbb⟩ : ∃ b4, b4 = w9.heap.size := ⟨_, rfl⟩
          obtain ⟨w10, hw2⟩ : ∃ w10, w10 = w9.alloc (.cells #[.int .i64 0, .int .i64 SI] 33) := ⟨_, rfl⟩
          have nb4b0 : b0 < b4 := by rw [hbb]; exact F0.out.lt
          have nb4b1 : b1 < b4 := by rw [hbb]; exact F1.out.lt
          have nb4b2 : b2 < b4 := by rw [hbb]; exact F2.out.lt
          have nb4b3 : b3 < b4 := by rw [hbb]; exact F3.out.lt
          have F0 : Hid (Blk w10 b0 [.int .i64 h.fl, .int .i64 h.gp, .int .i64 h.ln, .int .i64 h.rf, .int .i64 h.sp, .int .i64 h.pu, .int .i64 h.br, .int .i64 h.dr, .int .i64 h.lv, .int .i64 h.dO, .int .i64 h.ld, .int .i64 h.qu]) := by rw [hw2]; exact F0.out.alloc _
          have F1 : Hid (Blk w10 b1 [.int .i64 0, .slice va Z.length vc]) := by rw [hw2]; exact F1.out.alloc _
          have F2 : Hid (Blk w10 b2 [.int .i64 0, .int .i64 OI]) := by rw [hw2]; exact F2.out.alloc _
          have F3 : Hid (Blk w10 b3 [.int .i64 0, .slice pa P.length pc]) := by rw [hw2]; exact F3.out.alloc _
          have F4 : Hid (Blk w10 b4 [.int .i64 0, .int .i64 SI]) := by rw [hw2]; exact Blk.at_ w9 #[.int .i64 0, .int .i64 SI] _ _ hbb
          have FB : Hid (Below w.heap.size w w10) := by rw [hw2]; exact FB.out.alloc FB.out.size _
          have leb4 : w.heap.size ≤ b4 := by rw [hbb]; exact FB0.out.size
          (try simp only [Act.put])
          rw [← hw2, ← hbb]
          clear hbb hw2 FB0
          have y20 := F2.out.c 0 _ rfl
          have y21 := F2.out.c 1 _ rfl
          have y30 := F3.out.c 0 _ rfl
          have y40 := F4.out.c 0 _ rfl
          have y41 := F4.out.c 1 _ rfl
          clear x31 x11 hd
          by_cases hc1 : c = 1
          · have q1 : (cc == 1) = true := by rw [HCC.out, hc1]; rfl
            have q2 : (SI == 0) = true := by rw [HT1.out hc1]; rfl
            clear hc1
            go_wp2
            go_ret
            exact ⟨by first | rfl | simp, FB.out⟩
          · have q1 : (cc == 1) = false := by rw [HCC.out]; simpa using fun e => hc1 (by omega)
            have q2 : (SI == 0) = false := by simpa using HT2.out hc1
            clear hc1
            go_wp2
            go_ret
            exact ⟨by first | rfl | simp, FB.out⟩
end Go.Proofs.Ytnpnlckdggakmaa
