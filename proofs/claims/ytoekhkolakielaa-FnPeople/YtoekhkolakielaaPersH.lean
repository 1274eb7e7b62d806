/-
  The model's ledger: people whose state is turned.
-/
import Derived.Test.YtoekhkolakielaaPersG
import Derived.Test.YtoekhkolakielaaPersA
import Derived.BigGuardPart
namespace Go.Proofs.Ytoekhkolakielaa
open Go.RowKit Pl
set_option linter.unusedSimpArgs false
set_option linter.unusedVariables false

theorem turn_at {f : Pe → Pe} {l : List Pe} {i : Nat} {p : Pe} (h : l[i]? = some p) : ((l.take i).map f ++ l.drop i)[i]? = some p := by
  have hi : i < l.length := (List.getElem?_eq_some_iff.1 h).1
  rw [List.getElem?_append_right (by rw [List.length_map, List.length_take]; omega), List.length_map, List.length_take, Nat.min_eq_left (by omega), Nat.sub_self, List.getElem?_drop, Nat.add_zero]
  exact h
theorem turn_set {f : Pe → Pe} {l : List Pe} {i : Nat} {p : Pe} (h : l[i]? = some p) : ((l.take i).map f ++ l.drop i).set i (f p) = (l.take (i + 1)).map f ++ l.drop (i + 1) := by
  have hi : i < l.length := (List.getElem?_eq_some_iff.1 h).1
  have e : l[i] = p := (List.getElem?_eq_some_iff.1 h).2
  rw [List.set_append_right _ _ (by rw [List.length_map, List.length_take]; omega), List.length_map, List.length_take, Nat.min_eq_left (by omega), Nat.sub_self, List.drop_eq_getElem_cons hi, List.set_cons_zero, List.take_succ_eq_append_getElem hi, List.map_append, e]
  simp
theorem turn_keep {f : Pe → Pe} {l : List Pe} {i : Nat} {p : Pe} (h : l[i]? = some p) (k : f p = p) : (l.take i).map f ++ l.drop i = (l.take (i + 1)).map f ++ l.drop (i + 1) := by
  have hi : i < l.length := (List.getElem?_eq_some_iff.1 h).1
  have e : l[i] = p := (List.getElem?_eq_some_iff.1 h).2
  rw [List.drop_eq_getElem_cons hi, List.take_succ_eq_append_getElem hi, List.map_append, e]
  simp [k]
theorem LAt.grown {W w : World} {b : Nat} {nx : Int} {a : Option Addr} {len cap : Nat} {row : Option Nat} (h : LAt W b nx a len cap) (hg : W.grownBy w row) (hne : some b ≠ row) : LAt w b nx a len cap :=
  ⟨(World.cell?_of_block (w := W) (hg.block b h.lt hne)).trans h.c0, (World.cell?_of_block (w := W) (hg.block b h.lt hne)).trans h.c1⟩
theorem grown_set1 (W : World) (g o : Nat) (u : Value) : W.grownBy (W.setCell ⟨g, o, none⟩ u) (some g) := ⟨rfl, rfl, rfl, by simp [World.setCell], fun i _ hne => Below.heap_setCell _ _ _ _ (fun e => hne (by rw [e]))⟩
theorem grown_new (W : World) (o : Obj) (g : Nat) : W.grownBy (W.alloc o) (some g) := World.grownBy_alloc W o _
def dropP (p : Pe) : Pe := if p.st = 0 then ⟨p.id, p.fr, p.tw, p.sh, p.ca, 4, p.pl⟩ else p
def alightP (sh ca fl : Int) (p : Pe) : Pe := if p.sh = sh ∧ p.ca = ca ∧ p.st = 1 ∧ p.tw = fl then ⟨p.id, p.fr, p.tw, p.sh, p.ca, 2, fl⟩ else p
def outP (sh ca fl : Int) (p : Pe) : Pe := if p.sh = sh ∧ p.ca = ca ∧ p.st = 1 then ⟨p.id, p.fr, p.tw, p.sh, p.ca, 3, fl⟩ else p
set_option maxRecDepth 20000 in
set_option maxHeartbeats 16000000 in
theorem l7Alight_any (lb : Nat) (nx : Int) (B g n cap : Nat) (l : List Pe) (sh : Int) (ca : Int) (fl : Int) (hl : n ≤ 1048576) (hne : lb ≠ g) (w : World) (hL : LAt w lb nx (some ⟨g, 0, none⟩) n cap) (h : Ow w B g n cap l) :
    Calls Try.prog 60 #[.pointer (some ⟨lb, 0, none⟩), .int .i64 sh, .int .i64 ca, .int .i64 fl] w fun e w' => e = .returned (.tuple #[]) ∧ Ow w' B g n cap (l.map (alightP sh ca fl)) ∧ w.grownBy w' (some g) := by
  have hn := h.1
  have HL : Hid (LAt w lb nx (some ⟨g, 0, none⟩) n cap) := hL
  have HO : Hid (Ow w B g n cap l) := h
  clear hL h
  go_enter Try.func60, Try.ntmps60
  go_wp2_with fail
  go_loopw [8] (fun ii wr => ∃ i : Nat, ii = .int .i64 i ∧ i ≤ n ∧ Ow wr B g n cap ((l.take i).map (alightP sh ca fl) ++ l.drop i) ∧ w.grownBy wr (some g)) (fun ii _ => n - (intOf ii).toNat)
  case atStart => exact ⟨0, rfl, by omega, by simpa using HO.out, World.grownBy.refl w _⟩
  case round =>
    obtain ⟨i, rfl, hi, ho, hg⟩ := hrel
    have FO : Hid (Ow wr B g n cap ((l.take i).map (alightP sh ca fl) ++ l.drop i)) := ho
    have FG : Hid (w.grownBy wr (some g)) := hg
    have LA : Hid (LAt wr lb nx (some ⟨g, 0, none⟩) n cap) := HL.out.grown hg (fun e => hne (Option.some.inj e))
    obtain ⟨g0, g1⟩ := LA.out
    have nel : g ≠ lb := fun e => hne e.symm
    clear ho hg HO
    by_cases hlt : i < n
    · obtain ⟨p, hp⟩ : ∃ p, l[i]? = some p := ⟨_, List.getElem?_eq_getElem (by omega)⟩
      have hz : ((l.take i).map (alightP sh ca fl) ++ l.drop i)[i]? = some p := turn_at hp
      have lg := FO.out.bl.2
      have ng := Nat.ne_of_gt lg
      obtain ⟨d0, d1, d2, d3, d4, d5, d6⟩ := FO.out.p7 hz
      have fz5 := FO.out.fz (i * 7 + 5)
      have fz6 := FO.out.fz (i * 7 + 6)
      obtain ⟨e0, e1, e2, e3, e4, e5, e6⟩ := (FO.out.alloc (.cells #[.int .i64 p.id, .int .i64 p.fr, .int .i64 p.tw, .int .i64 p.sh, .int .i64 p.ca, .int .i64 p.st, .int .i64 p.pl] 42)).p7 hz
      have fy5 := (FO.out.alloc (.cells #[.int .i64 p.id, .int .i64 p.fr, .int .i64 p.tw, .int .i64 p.sh, .int .i64 p.ca, .int .i64 p.st, .int .i64 p.pl] 42)).fz (i * 7 + 5)
      have fy6 := (FO.out.alloc (.cells #[.int .i64 p.id, .int .i64 p.fr, .int .i64 p.tw, .int .i64 p.sh, .int .i64 p.ca, .int .i64 p.st, .int .i64 p.pl] 42)).fz (i * 7 + 6)
      obtain ⟨ga0, ga1⟩ := LA.out.below ((Below.refl _ _).alloc (Nat.le_refl _) (.cells #[.int .i64 p.id, .int .i64 p.fr, .int .i64 p.tw, .int .i64 p.sh, .int .i64 p.ca, .int .i64 p.st, .int .i64 p.pl] 42)) LA.out.lt
      cases k0 : (p.sh == sh)
      · have fp : (alightP sh ca fl) p = p := by
          unfold alightP
          exact if_neg (fun q => by simp [q] at k0)
        have HE : Hid ((l.take i).map (alightP sh ca fl) ++ l.drop i = (l.take (i + 1)).map (alightP sh ca fl) ++ l.drop (i + 1)) := turn_keep hp fp
        clear fp hp hz
        go_wp2_with fail
        go_roundw
        case rel => exact ⟨i + 1, by simp, by omega, HE.out ▸ (FO.out.alloc (.cells #[.int .i64 p.id, .int .i64 p.fr, .int .i64 p.tw, .int .i64 p.sh, .int .i64 p.ca, .int .i64 p.st, .int .i64 p.pl] 42)), grown_trans FG.out (grown_new wr _ g)⟩
        case measure => simp [intOf]; omega
      · cases k1 : (p.ca == ca)
        · have fp : (alightP sh ca fl) p = p := by
            unfold alightP
            exact if_neg (fun q => by simp [q] at k1)
          have HE : Hid ((l.take i).map (alightP sh ca fl) ++ l.drop i = (l.take (i + 1)).map (alightP sh ca fl) ++ l.drop (i + 1)) := turn_keep hp fp
          clear fp hp hz
          go_wp2_with fail
          go_roundw
          case rel => exact ⟨i + 1, by simp, by omega, HE.out ▸ (FO.out.alloc (.cells #[.int .i64 p.id, .int .i64 p.fr, .int .i64 p.tw, .int .i64 p.sh, .int .i64 p.ca, .int .i64 p.st, .int .i64 p.pl] 42)), grown_trans FG.out (grown_new wr _ g)⟩
          case measure => simp [intOf]; omega
        · cases k2 : (p.st == 1)
          · have fp : (alightP sh ca fl) p = p := by
              unfold alightP
              exact if_neg (fun q => by simp [q] at k2)
            have HE : Hid ((l.take i).map (alightP sh ca fl) ++ l.drop i = (l.take (i + 1)).map (alightP sh ca fl) ++ l.drop (i + 1)) := turn_keep hp fp
            clear fp hp hz
            go_wp2_with fail
            go_roundw
            case rel => exact ⟨i + 1, by simp, by omega, HE.out ▸ (FO.out.alloc (.cells #[.int .i64 p.id, .int .i64 p.fr, .int .i64 p.tw, .int .i64 p.sh, .int .i64 p.ca, .int .i64 p.st, .int .i64 p.pl] 42)), grown_trans FG.out (grown_new wr _ g)⟩
            case measure => simp [intOf]; omega
          · cases k3 : (p.tw == fl)
            · have fp : (alightP sh ca fl) p = p := by
                unfold alightP
                exact if_neg (fun q => by simp [q] at k3)
              have HE : Hid ((l.take i).map (alightP sh ca fl) ++ l.drop i = (l.take (i + 1)).map (alightP sh ca fl) ++ l.drop (i + 1)) := turn_keep hp fp
              clear fp hp hz
              go_wp2_with fail
              go_roundw
              case rel => exact ⟨i + 1, by simp, by omega, HE.out ▸ (FO.out.alloc (.cells #[.int .i64 p.id, .int .i64 p.fr, .int .i64 p.tw, .int .i64 p.sh, .int .i64 p.ca, .int .i64 p.st, .int .i64 p.pl] 42)), grown_trans FG.out (grown_new wr _ g)⟩
              case measure => simp [intOf]; omega
            · have fp : (alightP sh ca fl) p = ⟨p.id, p.fr, p.tw, p.sh, p.ca, 2, fl⟩ := by
                unfold alightP
                exact if_pos (⟨by simpa using k0, by simpa using k1, by simpa using k2, by simpa using k3⟩)
              have HE : Hid (((l.take i).map (alightP sh ca fl) ++ l.drop i).set i ⟨p.id, p.fr, p.tw, p.sh, p.ca, 2, fl⟩ = (l.take (i + 1)).map (alightP sh ca fl) ++ l.drop (i + 1)) := fp ▸ turn_set hp
              clear fp hp
              have HS : Hid (Ow ((((wr).setCell ⟨g, i * 7 + 5, none⟩ (.int .i64 2)).setCell ⟨g, i * 7 + 6, none⟩ (.int .i64 fl)).alloc (.cells #[.int .i64 p.id, .int .i64 p.fr, .int .i64 p.tw, .int .i64 p.sh, .int .i64 p.ca, .int .i64 p.st, .int .i64 p.pl] 42)) B g n cap ((l.take (i + 1)).map (alightP sh ca fl) ++ l.drop (i + 1))) := by
                have s := (((FO.out.set (k := 5) (u := .int .i64 2) (q := ⟨p.id, p.fr, p.tw, p.sh, p.ca, 2, p.pl⟩) hz (by omega) rfl).set (k := 6) (u := .int .i64 fl) (q := ⟨p.id, p.fr, p.tw, p.sh, p.ca, 2, fl⟩) (get_set hz) (by omega) rfl).alloc (.cells #[.int .i64 p.id, .int .i64 p.fr, .int .i64 p.tw, .int .i64 p.sh, .int .i64 p.ca, .int .i64 p.st, .int .i64 p.pl] 42))
                try simp only [List.set_set] at s
                rw [HE.out] at s
                exact s
              have M1 := (FO.out.set (k := 5) (u := .int .i64 2) (q := ⟨p.id, p.fr, p.tw, p.sh, p.ca, 2, p.pl⟩) hz (by omega) rfl).alloc (.cells #[.int .i64 p.id, .int .i64 p.fr, .int .i64 p.tw, .int .i64 p.sh, .int .i64 p.ca, .int .i64 p.st, .int .i64 p.pl] 42)
              obtain ⟨u0, u1, u2, u3, u4, u5, u6⟩ := M1.p7 (get_set hz)
              have uz := M1.fz (i * 7 + 6)
              obtain ⟨v0_, v1_⟩ := (LAt.mk ((cellS (o := i * 7 + 5) (v := .int .i64 2) hne).trans LA.out.c0) ((cellS (o := i * 7 + 5) (v := .int .i64 2) hne).trans LA.out.c1) : LAt (wr.setCell ⟨g, i * 7 + 5, none⟩ (.int .i64 2)) lb nx (some ⟨g, 0, none⟩) n cap).below ((Below.refl _ _).alloc (Nat.le_refl _) (.cells #[.int .i64 p.id, .int .i64 p.fr, .int .i64 p.tw, .int .i64 p.sh, .int .i64 p.ca, .int .i64 p.st, .int .i64 p.pl] 42)) (by simp; exact LA.out.lt)
              try dsimp only at u0 u1 u2 u3 u4 u5 u6
              clear M1
              clear hz HE
              go_wp2_with fail
              go_roundw
              case rel => exact ⟨i + 1, by simp, by omega, HS.out, grown_trans (grown_trans (grown_trans (FG.out) (grown_set1 _ g _ _)) (grown_set1 _ g _ _)) (grown_new _ (.cells #[.int .i64 p.id, .int .i64 p.fr, .int .i64 p.tw, .int .i64 p.sh, .int .i64 p.ca, .int .i64 p.st, .int .i64 p.pl] 42) g)⟩
              case measure => simp [intOf]; omega
    · have ei : i = n := by omega
      subst ei
      have HM : Hid (Ow wr B g i cap (l.map (alightP sh ca fl))) := by
        have q := FO.out
        rw [List.drop_eq_nil_of_le (by omega), List.append_nil, List.take_of_length_le (by omega)] at q
        exact q
      clear FO
      go_wp2_with fail
      go_end0
      exact ⟨rfl, HM.out, FG.out⟩
set_option maxRecDepth 20000 in
set_option maxHeartbeats 16000000 in
theorem l7Out_any (lb : Nat) (nx : Int) (B g n cap : Nat) (l : List Pe) (sh : Int) (ca : Int) (fl : Int) (hl : n ≤ 1048576) (hne : lb ≠ g) (w : World) (hL : LAt w lb nx (some ⟨g, 0, none⟩) n cap) (h : Ow w B g n cap l) :
    Calls Try.prog 61 #[.pointer (some ⟨lb, 0, none⟩), .int .i64 sh, .int .i64 ca, .int .i64 fl] w fun e w' => e = .returned (.tuple #[]) ∧ Ow w' B g n cap (l.map (outP sh ca fl)) ∧ w.grownBy w' (some g) := by
  have hn := h.1
  have HL : Hid (LAt w lb nx (some ⟨g, 0, none⟩) n cap) := hL
  have HO : Hid (Ow w B g n cap l) := h
  clear hL h
  go_enter Try.func61, Try.ntmps61
  go_wp2_with fail
  go_loopw [8] (fun ii wr => ∃ i : Nat, ii = .int .i64 i ∧ i ≤ n ∧ Ow wr B g n cap ((l.take i).map (outP sh ca fl) ++ l.drop i) ∧ w.grownBy wr (some g)) (fun ii _ => n - (intOf ii).toNat)
  case atStart => exact ⟨0, rfl, by omega, by simpa using HO.out, World.grownBy.refl w _⟩
  case round =>
    obtain ⟨i, rfl, hi, ho, hg⟩ := hrel
    have FO : Hid (Ow wr B g n cap ((l.take i).map (outP sh ca fl) ++ l.drop i)) := ho
    have FG : Hid (w.grownBy wr (some g)) := hg
    have LA : Hid (LAt wr lb nx (some ⟨g, 0, none⟩) n cap) := HL.out.grown hg (fun e => hne (Option.some.inj e))
    obtain ⟨g0, g1⟩ := LA.out
    have nel : g ≠ lb := fun e => hne e.symm
    clear ho hg HO
    by_cases hlt : i < n
    · obtain ⟨p, hp⟩ : ∃ p, l[i]? = some p := ⟨_, List.getElem?_eq_getElem (by omega)⟩
      have hz : ((l.take i).map (outP sh ca fl) ++ l.drop i)[i]? = some p := turn_at hp
      have lg := FO.out.bl.2
      have ng := Nat.ne_of_gt lg
      obtain ⟨d0, d1, d2, d3, d4, d5, d6⟩ := FO.out.p7 hz
      have fz5 := FO.out.fz (i * 7 + 5)
      have fz6 := FO.out.fz (i * 7 + 6)
      obtain ⟨e0, e1, e2, e3, e4, e5, e6⟩ := (FO.out.alloc (.cells #[.int .i64 p.id, .int .i64 p.fr, .int .i64 p.tw, .int .i64 p.sh, .int .i64 p.ca, .int .i64 p.st, .int .i64 p.pl] 42)).p7 hz
      have fy5 := (FO.out.alloc (.cells #[.int .i64 p.id, .int .i64 p.fr, .int .i64 p.tw, .int .i64 p.sh, .int .i64 p.ca, .int .i64 p.st, .int .i64 p.pl] 42)).fz (i * 7 + 5)
      have fy6 := (FO.out.alloc (.cells #[.int .i64 p.id, .int .i64 p.fr, .int .i64 p.tw, .int .i64 p.sh, .int .i64 p.ca, .int .i64 p.st, .int .i64 p.pl] 42)).fz (i * 7 + 6)
      obtain ⟨ga0, ga1⟩ := LA.out.below ((Below.refl _ _).alloc (Nat.le_refl _) (.cells #[.int .i64 p.id, .int .i64 p.fr, .int .i64 p.tw, .int .i64 p.sh, .int .i64 p.ca, .int .i64 p.st, .int .i64 p.pl] 42)) LA.out.lt
      cases k0 : (p.sh == sh)
      · have fp : (outP sh ca fl) p = p := by
          unfold outP
          exact if_neg (fun q => by simp [q] at k0)
        have HE : Hid ((l.take i).map (outP sh ca fl) ++ l.drop i = (l.take (i + 1)).map (outP sh ca fl) ++ l.drop (i + 1)) := turn_keep hp fp
        clear fp hp hz
        go_wp2_with fail
        go_roundw
        case rel => exact ⟨i + 1, by simp, by omega, HE.out ▸ (FO.out.alloc (.cells #[.int .i64 p.id, .int .i64 p.fr, .int .i64 p.tw, .int .i64 p.sh, .int .i64 p.ca, .int .i64 p.st, .int .i64 p.pl] 42)), grown_trans FG.out (grown_new wr _ g)⟩
        case measure => simp [intOf]; omega
      · cases k1 : (p.ca == ca)
        · have fp : (outP sh ca fl) p = p := by
            unfold outP
            exact if_neg (fun q => by simp [q] at k1)
          have HE : Hid ((l.take i).map (outP sh ca fl) ++ l.drop i = (l.take (i + 1)).map (outP sh ca fl) ++ l.drop (i + 1)) := turn_keep hp fp
          clear fp hp hz
          go_wp2_with fail
          go_roundw
          case rel => exact ⟨i + 1, by simp, by omega, HE.out ▸ (FO.out.alloc (.cells #[.int .i64 p.id, .int .i64 p.fr, .int .i64 p.tw, .int .i64 p.sh, .int .i64 p.ca, .int .i64 p.st, .int .i64 p.pl] 42)), grown_trans FG.out (grown_new wr _ g)⟩
          case measure => simp [intOf]; omega
        · cases k2 : (p.st == 1)
          · have fp : (outP sh ca fl) p = p := by
              unfold outP
              exact if_neg (fun q => by simp [q] at k2)
            have HE : Hid ((l.take i).map (outP sh ca fl) ++ l.drop i = (l.take (i + 1)).map (outP sh ca fl) ++ l.drop (i + 1)) := turn_keep hp fp
            clear fp hp hz
            go_wp2_with fail
            go_roundw
            case rel => exact ⟨i + 1, by simp, by omega, HE.out ▸ (FO.out.alloc (.cells #[.int .i64 p.id, .int .i64 p.fr, .int .i64 p.tw, .int .i64 p.sh, .int .i64 p.ca, .int .i64 p.st, .int .i64 p.pl] 42)), grown_trans FG.out (grown_new wr _ g)⟩
            case measure => simp [intOf]; omega
          · have fp : (outP sh ca fl) p = ⟨p.id, p.fr, p.tw, p.sh, p.ca, 3, fl⟩ := by
              unfold outP
              exact if_pos (⟨by simpa using k0, by simpa using k1, by simpa using k2⟩)
            have HE : Hid (((l.take i).map (outP sh ca fl) ++ l.drop i).set i ⟨p.id, p.fr, p.tw, p.sh, p.ca, 3, fl⟩ = (l.take (i + 1)).map (outP sh ca fl) ++ l.drop (i + 1)) := fp ▸ turn_set hp
            clear fp hp
            have HS : Hid (Ow ((((wr).setCell ⟨g, i * 7 + 5, none⟩ (.int .i64 3)).setCell ⟨g, i * 7 + 6, none⟩ (.int .i64 fl)).alloc (.cells #[.int .i64 p.id, .int .i64 p.fr, .int .i64 p.tw, .int .i64 p.sh, .int .i64 p.ca, .int .i64 p.st, .int .i64 p.pl] 42)) B g n cap ((l.take (i + 1)).map (outP sh ca fl) ++ l.drop (i + 1))) := by
              have s := (((FO.out.set (k := 5) (u := .int .i64 3) (q := ⟨p.id, p.fr, p.tw, p.sh, p.ca, 3, p.pl⟩) hz (by omega) rfl).set (k := 6) (u := .int .i64 fl) (q := ⟨p.id, p.fr, p.tw, p.sh, p.ca, 3, fl⟩) (get_set hz) (by omega) rfl).alloc (.cells #[.int .i64 p.id, .int .i64 p.fr, .int .i64 p.tw, .int .i64 p.sh, .int .i64 p.ca, .int .i64 p.st, .int .i64 p.pl] 42))
              try simp only [List.set_set] at s
              rw [HE.out] at s
              exact s
            have M1 := (FO.out.set (k := 5) (u := .int .i64 3) (q := ⟨p.id, p.fr, p.tw, p.sh, p.ca, 3, p.pl⟩) hz (by omega) rfl).alloc (.cells #[.int .i64 p.id, .int .i64 p.fr, .int .i64 p.tw, .int .i64 p.sh, .int .i64 p.ca, .int .i64 p.st, .int .i64 p.pl] 42)
            obtain ⟨u0, u1, u2, u3, u4, u5, u6⟩ := M1.p7 (get_set hz)
            have uz := M1.fz (i * 7 + 6)
            obtain ⟨v0_, v1_⟩ := (LAt.mk ((cellS (o := i * 7 + 5) (v := .int .i64 3) hne).trans LA.out.c0) ((cellS (o := i * 7 + 5) (v := .int .i64 3) hne).trans LA.out.c1) : LAt (wr.setCell ⟨g, i * 7 + 5, none⟩ (.int .i64 3)) lb nx (some ⟨g, 0, none⟩) n cap).below ((Below.refl _ _).alloc (Nat.le_refl _) (.cells #[.int .i64 p.id, .int .i64 p.fr, .int .i64 p.tw, .int .i64 p.sh, .int .i64 p.ca, .int .i64 p.st, .int .i64 p.pl] 42)) (by simp; exact LA.out.lt)
            try dsimp only at u0 u1 u2 u3 u4 u5 u6
            clear M1
            clear hz HE
            go_wp2_with fail
            go_roundw
            case rel => exact ⟨i + 1, by simp, by omega, HS.out, grown_trans (grown_trans (grown_trans (FG.out) (grown_set1 _ g _ _)) (grown_set1 _ g _ _)) (grown_new _ (.cells #[.int .i64 p.id, .int .i64 p.fr, .int .i64 p.tw, .int .i64 p.sh, .int .i64 p.ca, .int .i64 p.st, .int .i64 p.pl] 42) g)⟩
            case measure => simp [intOf]; omega
    · have ei : i = n := by omega
      subst ei
      have HM : Hid (Ow wr B g i cap (l.map (outP sh ca fl))) := by
        have q := FO.out
        rw [List.drop_eq_nil_of_le (by omega), List.append_nil, List.take_of_length_le (by omega)] at q
        exact q
      clear FO
      go_wp2_with fail
      go_end0
      exact ⟨rfl, HM.out, FG.out⟩
end Go.Proofs.Ytoekhkolakielaa
