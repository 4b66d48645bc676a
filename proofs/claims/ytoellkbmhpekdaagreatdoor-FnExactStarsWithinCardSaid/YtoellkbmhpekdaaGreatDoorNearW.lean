/-
  StarsWithin (packages spec and impl), and the law's own helpers on stars and numbers (marks).
-/
import Derived.Test.YtoellkbmhpekdaaGreatDoorNear7
import Derived.Deep.OwnRows
import Derived.Deep.AppendLies
import Derived.Lib.ItoaNum
import Derived.Deep.QuietTactic
import Derived.BigQuiet
namespace Go.Proofs.YtoellkbmhpekdaaGreatDoor
open Go.RowKit
set_option linter.unusedVariables false

theorem own_belowN {B : Nat} {w0 w w1 : World} {e : TypeId} {v : Value} {n : Nat} {xs : List Value} {o : Obj} (hown : w.ownsRow B e 1 v n xs) (hb : Below B w0 w) (hB : B ≤ w.heap.size)
    (hg : (w.alloc o).grownBy w1 v.ownBlock) : Below B w0 w1 ∧ B ≤ w1.heap.size := by
  refine ⟨(hb.alloc hB o).grown hg (by simp; omega) (fun k hk => (hown.lt k hk).1), ?_⟩
  have := hg.size
  simp at this
  omega
theorem one_cellN (w : World) (T : TypeId) (c : Int) : ∀ (j : Nat) u, [Value.int .i64 c][j]? = some u → (w.alloc (.cells #[.int .i64 c] T)).cell? ((⟨w.heap.size, 0, none⟩ : Addr).add j) = some u := by
  intro j u hj
  match j, hj with
  | 0, hj => simp at hj; subst hj; simp [Addr.add]
theorem one_plainN (c : Int) : ∀ u ∈ [Value.int .i64 c], u.oneCell' = true := by
  intro u hu
  simp at hu
  subst hu
  rfl
theorem ownsRow_belowN {B : Nat} {w w' : World} {e : TypeId} {v : Value} {n : Nat} {xs : List Value} (h : w.ownsRow B e 1 v n xs) (hb : Below w.heap.size w w') : w'.ownsRow B e 1 v n xs :=
  h.kept (⟨hb.os, hb.tape, hb.output, hb.size, fun k hk _ => hb.block k hk⟩ : w.grownBy w' none) (by cases hv : v.ownBlock <;> simp)

/-- The places below n whose number is at most r. -/
def nearL (f : Nat → Int) (r : Int) : Nat → List Int
  | 0 => []
  | n + 1 => if f n ≤ r then nearL f r n ++ [(n : Int)] else nearL f r n
theorem nearL_len (f : Nat → Int) (r : Int) (n : Nat) : (nearL f r n).length ≤ n := by
  induction n with
  | zero => exact Nat.le_refl _
  | succ n ih =>
    unfold nearL
    split
    · rw [List.length_append]
      simp only [List.length_cons, List.length_nil]
      omega
    · omega
def withR (zs : List StarV) (p q r : Int) : List Int × Int :=
  if okL zs = true then if dirB p q = true ∧ inR 0 180000 [r] = true then (nearL (distF zs p q) r zs.length, 0) else ([], 2) else ([], 1)
/-- The call returned a slice of its own with these numbers, and a code. -/
def WithPost (R : List Int × Int) (w : World) (e : Ending) (w' : World) : Prop :=
  ∃ v, e = .returned (.tuple #[v, .int .i64 R.2]) ∧ w'.ownsRow w.heap.size 2 1 v R.1.length (R.1.map (Value.int .i64)) ∧ Below w.heap.size w w'

set_option maxRecDepth 100000 in
set_option maxHeartbeats 2000000 in
theorem specWithin_any (g cap : Nat) (zs : List StarV) (p q r : Int) (fp : fits p) (w : World) (hb : zs.length ≤ 1048577) (h1 : Row w g zs) (hok : ∀ j, (h : j < zs.length) → zs[j].ok) :
    Calls Tryz.prog 25 #[.slice (some ⟨g, 0, none⟩) zs.length cap, .int .i64 p, .int .i64 q, .int .i64 r] w (WithPost (withR zs p q r) w) := by
  have V := Lib.hid (l05Ok_any g cap zs w hb h1)
  have VD := Lib.hid (fun w => l05Dir_any p q w)
  have IR := Lib.hid (fun w => l00In_any r 0 180000 w)
  have H1 := Lib.hid h1
  have AP := Lib.hid (fun b o x fa w h1 h2 => apart_any b o x p q fp fa w h1 h2)
  have OK := Lib.hid hok
  clear h1 hok fp
  cases ho : okL zs with
  | false =>
    have HR : Hid (withR zs p q r = ([], 1)) := Lib.hid (by unfold withR; rw [ho, if_neg (by simp)])
    rw [ho] at V
    clear ho
    go_enter Tryz.func25, Tryz.ntmps25
    go_wp2_with fail
    refine V.out.mono ?_
    rintro e w1 ⟨rfl, hb1⟩
    have HB1 := Lib.hid hb1
    clear hb1
    go_wp2_with fail
    go_returns
    exact ⟨_, by rw [HR.out]; rfl, by rw [HR.out]; exact World.ownsRow_nil _ _ _ _, HB1.out⟩
  | true =>
    rw [ho] at V
    cases hd : dirB p q with
    | false =>
      have HR : Hid (withR zs p q r = ([], 2)) := Lib.hid (by unfold withR; rw [ho, hd, if_pos rfl, if_neg (by simp)])
      rw [hd] at VD
      clear hd ho
      go_enter Tryz.func25, Tryz.ntmps25
      go_wp2_with fail
      refine V.out.mono ?_
      rintro e w1 ⟨rfl, hb1⟩
      have HB1 := Lib.hid hb1
      clear hb1
      go_wp2_with fail
      refine (VD.out _).mono ?_
      rintro e w2 ⟨rfl, rfl⟩
      go_wp2_with fail
      go_returns
      exact ⟨_, by rw [HR.out]; rfl, by rw [HR.out]; exact World.ownsRow_nil _ _ _ _, HB1.out⟩
    | true =>
      rw [hd] at VD
      cases hr : inR 0 180000 [r] with
      | false =>
        have HR : Hid (withR zs p q r = ([], 2)) := Lib.hid (by unfold withR; rw [ho, hd, hr, if_pos rfl, if_neg (by simp)])
        rw [hr] at IR
        clear hd ho hr
        go_enter Tryz.func25, Tryz.ntmps25
        go_wp2_with fail
        refine V.out.mono ?_
        rintro e w1 ⟨rfl, hb1⟩
        have HB1 := Lib.hid hb1
        clear hb1
        go_wp2_with fail
        refine (VD.out _).mono ?_
        rintro e w2 ⟨rfl, rfl⟩
        go_wp2_with fail
        refine (IR.out _).mono ?_
        rintro e w2 ⟨rfl, rfl⟩
        go_wp2_with fail
        go_returns
        exact ⟨_, by rw [HR.out]; rfl, by rw [HR.out]; exact World.ownsRow_nil _ _ _ _, HB1.out⟩
      | true =>
        have HR : Hid (withR zs p q r = (nearL (distF zs p q) r zs.length, 0)) := Lib.hid (by unfold withR; rw [ho, hd, hr, if_pos rfl, if_pos ⟨rfl, rfl⟩])
        rw [hr] at IR
        clear hd ho hr
        have AJ : Hid (∀ j, j < zs.length → ∀ w1, Below w.heap.size w w1 → Calls Tryz.prog 44 #[.pointer (some ⟨g, j * 5, none⟩), .int .i64 p, .int .i64 q] w1 fun e w' => e = .returned (.int .i64 (distF zs p q j)) ∧ Below w1.heap.size w1 w') := Lib.hid (by
          intro j hj w1 hw
          obtain ⟨c0, c1, c2, c3, c4⟩ := (H1.out.below hw).at j hj
          have r := AP.out g (j * 5) zs[j] (OK.out j hj).2.1 w1 c1 c2
          unfold distF
          rw [getD_at zs j hj]
          exact r)
        generalize distF zs p q = f at *
        have BN : Hid (∀ j, nearL f r (j + 1) = if f j ≤ r then nearL f r j ++ [(j : Int)] else nearL f r j) := Lib.hid (fun _ => rfl)
        clear AP OK H1
        obtain ⟨i0, hi, hzz⟩ := Option.map_eq_some_iff.1 info_i64
        simp only [Prod.mk.injEq] at hzz
        obtain ⟨hz0, hz1, hz2⟩ := hzz
        have HI := Lib.hid hi
        have HZ0 := Lib.hid hz0
        have HZ1 := Lib.hid hz1
        have HZ2 := Lib.hid hz2
        clear hi hz0 hz1 hz2
        go_enter Tryz.func25, Tryz.ntmps25
        go_wp2_with fail
        refine V.out.mono ?_
        rintro e w1 ⟨rfl, hb1⟩
        have HB1 := Lib.hid hb1
        clear hb1
        go_wp2_with fail
        refine (VD.out _).mono ?_
        rintro e w2 ⟨rfl, rfl⟩
        go_wp2_with fail
        refine (IR.out _).mono ?_
        rintro e w2 ⟨rfl, rfl⟩
        go_wp2_with fail
        go_loopg [10, 11] (zs.length + 1) (fun kx s10 s11 wr => ∃ j : Nat, s11 = .int .i64 (j : Int) ∧ j ≤ zs.length ∧ kx = zs.length + 1 - j ∧ Hid (wr.ownsRow w.heap.size 2 1 s10 (nearL f r j).length ((nearL f r j).map (Value.int .i64))) ∧ Hid (Below w.heap.size w wr))
        case atStart =>
          exact ⟨0, rfl, Nat.zero_le _, rfl, Lib.hid (Go.Joins.ownsRow_le (World.ownsRow_lit w1 #[] 0 (Nat.le_refl _) (by decide) rfl) HB1.out.size), Lib.hid (HB1.out.alloc HB1.out.size _)⟩
        case round =>
          obtain ⟨j, rfl, hj, rfl, HO, HB⟩ := hrel
          by_cases hlt : j < zs.length
          · have j0 : (0 : Int) ≤ (j : Int) := by omega
            have j1 : (j : Int) < (zs.length : Int) := by omega
            have AC := Lib.hid (AJ.out j hlt _ HB.out)
            have HN := Lib.hid (BN.out j)
            have hnl := nearL_len f r j
            obtain ⟨n, hn⟩ : ∃ n, n = f j := ⟨_, rfl⟩
            rw [← hn] at AC HN
            clear hn
            obtain ⟨L, hL⟩ : ∃ L, L = nearL f r j := ⟨_, rfl⟩
            rw [← hL] at HN HO hnl
            clear hL
            by_cases hc : n ≤ r
            · rw [if_pos hc] at HN
              go_wp2_with fail
              refine AC.out.mono ?_
              rintro e w4 ⟨rfl, hb4⟩
              have HB4 := Lib.hid (HB.out.trans (hb4.mono HB.out.size))
              have hown := ownsRow_belowN HO.out hb4
              clear hb4 HO
              have hi := HI.out
              have hz0 := HZ0.out
              have hz1 := HZ1.out
              have hz2 := HZ2.out
              go_wp2_with (at_builtin; refine wpList_append_own _ rfl _ _ 41 rfl w.heap.size 2 i0 (.int .i64 0) 1 8 Tryz.underlying41 hi hz0 hz1 hz2 rfl (by decide) _ _ _ rfl (hown.alloc _) ⟨w4.heap.size, 0, none⟩ 1 1 [.int .i64 (j : Int)] rfl rfl ?c1 ?c2 ?c3 ?c4 ?c5 ?_)
              case c1 => exact one_cellN _ _ _
              case c2 => exact one_plainN _
              case c3 => unfold maxLen; omega
              case c4 => omega
              case c5 => have hs4 := HB4.out.size; simp; omega
              intro v' w5 hown' hgrow _
              obtain ⟨hb2, hs2⟩ := own_belowN hown HB4.out HB4.out.size hgrow
              have ho : w5.ownsRow w.heap.size 2 1 v' (L ++ [(j : Int)]).length ((L ++ [(j : Int)]).map (Value.int .i64)) := by simpa using hown'
              have HO2 := Lib.hid ho
              have HB5 := Lib.hid hb2
              clear hown hown' hgrow ho hb2 hs2 hi hz0 hz1 hz2
              go_wp2_with fail
              go_roundg (zs.length + 1 - (j + 1))
              case measure => omega
              case rel => exact ⟨j + 1, by go_num, by omega, by omega, by rw [HN.out]; exact HO2, HB5⟩
            · rw [if_neg hc] at HN
              have hc' : r < n := by omega
              go_wp2_with fail
              refine AC.out.mono ?_
              rintro e w4 ⟨rfl, hb4⟩
              have HB4 := Lib.hid (HB.out.trans (hb4.mono HB.out.size))
              have HO4 := Lib.hid (ownsRow_belowN HO.out hb4)
              clear hb4
              go_wp2_with fail
              go_roundg (zs.length + 1 - (j + 1))
              case measure => omega
              case rel => exact ⟨j + 1, by go_num, by omega, by omega, by rw [HN.out]; exact HO4, HB4⟩
          · obtain rfl : j = zs.length := by omega
            go_wp2_with fail
            go_returns
            exact ⟨_, by rw [HR.out]; rfl, by rw [HR.out]; exact HO.out, HB.out⟩
end Go.Proofs.YtoellkbmhpekdaaGreatDoor

namespace Go.Proofs.YtoellkbmhpekdaaGreatDoor
open Go.RowKit
set_option linter.unusedVariables false

/-- While the places are gathered: the distances stay, and lie apart. -/
structure NearKeep (w wr : World) (v : Value) (g n : Nat) (f : Nat → Int) : Prop where
  bel : Below w.heap.size w wr
  apart : v.ownBlock ≠ some g
  old : g < wr.heap.size
  cells : ∀ k, k < n → wr.cell? ⟨g, k, none⟩ = some (.int .i64 (f k))
theorem NearKeep.next {w wr w2 : World} {v : Value} {g n gg m cap : Nat} {f : Nat → Int} {o : Obj} (h : NearKeep w wr v g n f) (hg : (wr.alloc o).grownBy w2 v.ownBlock) (hl : v.ownBlock = some gg ∨ gg = wr.heap.size + 1) (hb : Below w.heap.size w w2) :
    NearKeep w w2 (.slice (some ⟨gg, 0, none⟩) m cap) g n f := by
  have h1 := h.old
  have h2 := hg.size
  simp at h2
  refine ⟨hb, ?_, by omega, fun k hk => ?_⟩
  · intro e
    have e2 : gg = g := by simpa [Value.ownBlock] using e
    subst e2
    rcases hl with hl | hl
    · exact h.apart hl
    · omega
  · rw [hg.cell_far ⟨g, k, none⟩ (by simp; omega) (Ne.symm h.apart), ← h.cells k hk]
    exact ((Below.refl _ wr).alloc (Nat.le_refl _) o).cell (p := ⟨g, k, none⟩) h1

set_option maxRecDepth 100000 in
set_option maxHeartbeats 4000000 in
theorem implWithin_any (g cap : Nat) (zs : List StarV) (p q r : Int) (fp : fits p) (w : World) (hb : zs.length ≤ 1048577) (h1 : Row w g zs) (hok : ∀ j, (h : j < zs.length) → zs[j].ok) (hs : SinesOK w) :
    Calls Tryz.prog 26 #[.slice (some ⟨g, 0, none⟩) zs.length cap, .int .i64 p, .int .i64 q, .int .i64 r] w (WithPost (withR zs p q r) w) := by
  have V := Lib.hid (fun w h1 => validStars_any g cap zs w hb h1 hok)
  have VD := Lib.hid (fun w => dirValid_any p q w)
  have H1 := Lib.hid h1
  have E := Lib.hid hs
  have DI := Lib.hid (fun w hs h1 => distances_any g cap zs p q fp w hs hb h1 hok)
  unfold sightD at DI
  clear h1 hs hok
  cases ho : okL zs with
  | false =>
    have HR : Hid (withR zs p q r = ([], 1)) := Lib.hid (by unfold withR; rw [ho, if_neg (by simp)])
    rw [ho] at V
    clear ho
    go_enter Tryz.func26, Tryz.ntmps26
    go_wp2_with fail
    refine (V.out _ (H1.out.below ((Below.refl _ w).alloc (Nat.le_refl _) _))).mono ?_
    rintro e w1 ⟨rfl, hb1⟩
    have HB1 := Lib.hid (((Below.refl _ w).alloc (Nat.le_refl _) (.cells #[.int .i64 p, .int .i64 q] 71)).trans (hb1.mono (by simp)))
    clear hb1
    go_wp2_with fail
    go_returns
    exact ⟨_, by rw [HR.out]; rfl, by rw [HR.out]; exact World.ownsRow_nil _ _ _ _, HB1.out⟩
  | true =>
    rw [ho] at V
    cases hd : dirB p q with
    | false =>
      have HR : Hid (withR zs p q r = ([], 2)) := Lib.hid (by unfold withR; rw [ho, hd, if_pos rfl, if_neg (by simp)])
      rw [hd] at VD
      clear hd ho
      go_enter Tryz.func26, Tryz.ntmps26
      go_wp2_with fail
      refine (V.out _ (H1.out.below ((Below.refl _ w).alloc (Nat.le_refl _) _))).mono ?_
      rintro e w1 ⟨rfl, hb1⟩
      have HB1 := Lib.hid (((Below.refl _ w).alloc (Nat.le_refl _) (.cells #[.int .i64 p, .int .i64 q] 71)).trans (hb1.mono (by simp)))
      have q0 : w1.cell? ⟨w.heap.size, 0, none⟩ = some (.int .i64 p) := (hb1.cell (p := ⟨w.heap.size, 0, none⟩) (by simp)).trans (by simp)
      have q1 : w1.cell? ⟨w.heap.size, 1, none⟩ = some (.int .i64 q) := (hb1.cell (p := ⟨w.heap.size, 1, none⟩) (by simp)).trans (by simp)
      clear hb1
      go_wp2_with fail
      refine (VD.out _).mono ?_
      rintro e w2 ⟨rfl, hb2⟩
      have HB2 := Lib.hid (HB1.out.trans (hb2.mono HB1.out.size))
      clear hb2
      go_wp2_with fail
      go_returns
      exact ⟨_, by rw [HR.out]; rfl, by rw [HR.out]; exact World.ownsRow_nil _ _ _ _, HB2.out⟩
    | true =>
      rw [hd] at VD
      cases hr : inR 0 180000 [r] with
      | false =>
        have HR : Hid (withR zs p q r = ([], 2)) := Lib.hid (by unfold withR; rw [ho, hd, hr, if_pos rfl, if_neg (by simp)])
        have HI := Lib.hid hr
        clear hd ho hr
        go_enter Tryz.func26, Tryz.ntmps26
        go_wp2_with fail
        refine (V.out _ (H1.out.below ((Below.refl _ w).alloc (Nat.le_refl _) _))).mono ?_
        rintro e w1 ⟨rfl, hb1⟩
        have HB1 := Lib.hid (((Below.refl _ w).alloc (Nat.le_refl _) (.cells #[.int .i64 p, .int .i64 q] 71)).trans (hb1.mono (by simp)))
        have q0 : w1.cell? ⟨w.heap.size, 0, none⟩ = some (.int .i64 p) := (hb1.cell (p := ⟨w.heap.size, 0, none⟩) (by simp)).trans (by simp)
        have q1 : w1.cell? ⟨w.heap.size, 1, none⟩ = some (.int .i64 q) := (hb1.cell (p := ⟨w.heap.size, 1, none⟩) (by simp)).trans (by simp)
        clear hb1
        go_wp2_with fail
        refine (VD.out _).mono ?_
        rintro e w2 ⟨rfl, hb2⟩
        have HB2 := Lib.hid (HB1.out.trans (hb2.mono HB1.out.size))
        clear hb2
        go_wp2_with fail
        refine (within1 _ _ r _ _ _ (by first | (simp; done) | (rw [World.cell?_alloc_at _ _ _ _ (by simp)]; rfl))).mono ?_
        rintro e w' ⟨rfl, rfl⟩
        rw [HI.out]
        go_wp2_with fail
        go_returns
        exact ⟨_, by rw [HR.out]; rfl, by rw [HR.out]; exact World.ownsRow_nil _ _ _ _, HB2.out.alloc HB2.out.size _⟩
      | true =>
        have HR : Hid (withR zs p q r = (nearL (distF zs p q) r zs.length, 0)) := Lib.hid (by unfold withR; rw [ho, hd, hr, if_pos rfl, if_pos ⟨rfl, rfl⟩])
        have HI := Lib.hid hr
        clear hd ho hr
        generalize distF zs p q = f at *
        have BN : Hid (∀ j, nearL f r (j + 1) = if f j ≤ r then nearL f r j ++ [(j : Int)] else nearL f r j) := Lib.hid (fun _ => rfl)
        obtain ⟨i0, hi, hzz⟩ := Option.map_eq_some_iff.1 info_i64
        simp only [Prod.mk.injEq] at hzz
        obtain ⟨hz0, hz1, hz2⟩ := hzz
        have HI0 := Lib.hid hi
        have HZ0 := Lib.hid hz0
        have HZ1 := Lib.hid hz1
        have HZ2 := Lib.hid hz2
        clear hi hz0 hz1 hz2
        go_enter Tryz.func26, Tryz.ntmps26
        go_wp2_with fail
        refine (V.out _ (H1.out.below ((Below.refl _ w).alloc (Nat.le_refl _) _))).mono ?_
        rintro e w1 ⟨rfl, hb1⟩
        have HB1 := Lib.hid (((Below.refl _ w).alloc (Nat.le_refl _) (.cells #[.int .i64 p, .int .i64 q] 71)).trans (hb1.mono (by simp)))
        have q0 : w1.cell? ⟨w.heap.size, 0, none⟩ = some (.int .i64 p) := (hb1.cell (p := ⟨w.heap.size, 0, none⟩) (by simp)).trans (by simp)
        have q1 : w1.cell? ⟨w.heap.size, 1, none⟩ = some (.int .i64 q) := (hb1.cell (p := ⟨w.heap.size, 1, none⟩) (by simp)).trans (by simp)
        have l1 : w.heap.size < w1.heap.size := World.block_lt_of_cell? w1 ⟨_, 0, none⟩ q0
        clear hb1
        go_wp2_with fail
        refine (VD.out _).mono ?_
        rintro e w2 ⟨rfl, hb2⟩
        have HB2 := Lib.hid (HB1.out.trans (hb2.mono HB1.out.size))
        have q2 := (hb2.cell (p := ⟨w.heap.size, 0, none⟩) l1).trans q0
        have q3 := (hb2.cell (p := ⟨w.heap.size, 1, none⟩) l1).trans q1
        clear hb2 q0 q1
        go_wp2_with fail
        refine (within1 _ _ r _ _ _ (by first | (simp; done) | (rw [World.cell?_alloc_at _ _ _ _ (by simp)]; rfl))).mono ?_
        rintro e w' ⟨rfl, rfl⟩
        rw [HI.out]
        obtain ⟨W1, hW1⟩ : ∃ W1, W1 = w2.alloc (.cells #[.int .i64 r] 2) := ⟨_, rfl⟩
        rw [← hW1]
        have hB3 : Below w.heap.size w W1 := by rw [hW1]; exact HB2.out.alloc HB2.out.size _
        have hl2 : w.heap.size < w2.heap.size := World.block_lt_of_cell? w2 ⟨_, 0, none⟩ q2
        have q4 : W1.cell? ⟨w.heap.size, 0, none⟩ = some (.int .i64 p) := by rw [hW1, World.cell?_alloc_lt _ _ _ hl2]; exact q2
        have q5 : W1.cell? ⟨w.heap.size, 1, none⟩ = some (.int .i64 q) := by rw [hW1, World.cell?_alloc_lt _ _ _ hl2]; exact q3
        have hl3 : w.heap.size < W1.heap.size := World.block_lt_of_cell? W1 ⟨_, 0, none⟩ q4
        have HB3 := Lib.hid hB3
        clear hW1 q2 q3 hB3
        have ST := Lib.hid (World.ownsRow_lit (base := W1.heap.size) (e := 2) (size := 1) W1 #[] 0 (Nat.le_refl _) (by decide) rfl)
        have HB4 : Hid (Below w.heap.size w (W1.alloc (.cells #[] 2))) := Lib.hid (HB3.out.alloc HB3.out.size _)
        go_wp2_with fail
        refine (DI.out _ (E.out.below HB4.out) (H1.out.below HB4.out)).mono ?_
        rintro e w3 ⟨rfl, hI, hb3⟩
        have HB5 := Lib.hid (HB4.out.trans (hb3.mono HB4.out.size))
        have ho := Go.Joins.ownsRow_le (ownsRow_belowN ST.out hb3) HB3.out.size
        have HO := Lib.hid ho
        have NK : Hid (NearKeep w w3 (.slice (some ⟨W1.heap.size, 0, none⟩) 0 0) (W1.alloc (.cells #[] 2)).heap.size zs.length f) := Lib.hid ⟨HB5.out, (fun e => by simp [Value.ownBlock] at e), hI.lt, fun k hk => hI.cell hk⟩
        clear hb3 hI ho ST q4 q5
        generalize (W1.alloc (.cells #[] 2)).heap.size = G at *
        go_wp2_with fail
        go_loopg [11, 37] (zs.length + 1) (fun kx s11 s37 wr => ∃ j : Nat, s37 = .int .i64 (j : Int) ∧ j ≤ zs.length ∧ kx = zs.length + 1 - j ∧ Hid (wr.ownsRow w.heap.size 2 1 s11 (nearL f r j).length ((nearL f r j).map (Value.int .i64))) ∧ Hid (NearKeep w wr s11 G zs.length f))
        case atStart => exact ⟨0, rfl, Nat.zero_le _, rfl, HO, NK⟩
        case round =>
          obtain ⟨j, rfl, hj, rfl, HO, NK⟩ := hrel
          by_cases hlt : j < zs.length
          · have j0 : (0 : Int) ≤ (j : Int) := by omega
            have j1 : (j : Int) < (zs.length : Int) := by omega
            have cj := NK.out.cells j hlt
            have HN := Lib.hid (BN.out j)
            have hnl := nearL_len f r j
            obtain ⟨n, hn⟩ : ∃ n, n = f j := ⟨_, rfl⟩
            rw [← hn] at cj HN
            clear hn
            obtain ⟨L, hL⟩ : ∃ L, L = nearL f r j := ⟨_, rfl⟩
            rw [← hL] at HN HO hnl
            clear hL
            by_cases hc : n ≤ r
            · rw [if_pos hc] at HN
              have hown := HO.out
              have hi := HI0.out
              have hz0 := HZ0.out
              have hz1 := HZ1.out
              have hz2 := HZ2.out
              go_wp2_with (at_builtin; refine wpList_append_lies _ rfl _ _ 41 rfl w.heap.size 2 i0 (.int .i64 0) 1 8 Tryz.underlying41 hi hz0 hz1 hz2 rfl (by decide) _ _ _ rfl (hown.alloc _) ⟨wr.heap.size, 0, none⟩ 1 1 [.int .i64 (j : Int)] rfl rfl ?c1 ?c2 ?c0 ?c3 ?c4 ?c5 (wr.heap.size + 1) ?c6 ?_)
              case c1 => exact one_cellN _ _ _
              case c2 => exact one_plainN _
              case c0 => omega
              case c3 => unfold maxLen; omega
              case c4 => omega
              case c5 => have hs4 := NK.out.bel.size; simp; omega
              case c6 => simp
              intro gg cap2 w5 hown' hgrow hlies hlt2
              obtain ⟨hb2, hs2⟩ := own_belowN hown NK.out.bel NK.out.bel.size hgrow
              have hkp2 := Lib.hid (NK.out.next (m := L.length + 1) (cap := cap2) hgrow hlies hb2)
              have ho : w5.ownsRow w.heap.size 2 1 (.slice (some ⟨gg, 0, none⟩) (L.length + 1) cap2) (L ++ [(j : Int)]).length ((L ++ [(j : Int)]).map (Value.int .i64)) := by simpa using hown'
              have HO2 := Lib.hid ho
              clear hown hown' hgrow ho hb2 hs2 hi hz0 hz1 hz2 hlies cj
              go_wp2_with fail
              go_roundg (zs.length + 1 - (j + 1))
              case measure => omega
              case rel => exact ⟨j + 1, by go_num, by omega, by omega, by rw [HN.out]; exact HO2, hkp2⟩
            · rw [if_neg hc] at HN
              have hc' : r < n := by omega
              go_wp2_with fail
              go_roundg (zs.length + 1 - (j + 1))
              case measure => omega
              case rel => exact ⟨j + 1, by go_num, by omega, by omega, by rw [HN.out]; exact HO, NK⟩
          · obtain rfl : j = zs.length := by omega
            go_wp2_with fail
            go_returns
            exact ⟨_, by rw [HR.out]; rfl, by rw [HR.out]; exact HO.out, NK.out.bel⟩
end Go.Proofs.YtoellkbmhpekdaaGreatDoor

namespace Go.Proofs.YtoellkbmhpekdaaGreatDoor
open Go.RowKit
set_option linter.unusedVariables false

theorem ddM_small (u : Nat) (h : u < 10) : Lib.decDigits u = [UInt8.ofNat (48 + u)] := by rw [Lib.decDigits, dif_pos h]
theorem ddM_big (u : Nat) (h : ¬ u < 10) : Lib.decDigits u = Lib.decDigits (u / 10) ++ [UInt8.ofNat (48 + u % 10)] := by rw [Lib.decDigits, dif_neg h]
/-- The numbers k, k + 1, .. -/
def marks (k : Int) : Nat → List Int
  | 0 => []
  | n + 1 => k :: marks (k + 1) n
theorem marks_len : ∀ (n : Nat) (k : Int), (marks k n).length = n
  | 0, _ => rfl
  | n + 1, k => by rw [marks, List.length_cons, marks_len n (k + 1)]
theorem marks_get : ∀ (n : Nat) (k : Int) (j : Nat) (_h : j < n), (marks k n)[j]? = some (k + j)
  | n + 1, k, 0, _ => by rw [marks]; simp
  | n + 1, k, j + 1, _ => by
    rw [marks, List.getElem?_cons_succ, marks_get n (k + 1) j (by omega)]
    congr 1; omega

set_option maxHeartbeats 400000 in
theorem eqI_empty (a b : Option Addr) (ca cb : Nat) (w : World) :
    Calls Tryz.prog 27 #[.slice a 0 ca, .slice b 0 cb] w fun e w' => e = .returned (.bool true) ∧ ∃ q, w' = w.drewN q := by
  go_enter Tryz.func27, Tryz.ntmps27
  go_wp2_with fail
  go_loop [5] (fun i => i = .int .i64 0) (fun _ => 0)
  case atStart => rfl
  case round =>
    subst hrel
    go_wp2_with fail
    go_ret
    exact ⟨rfl, 0, rfl⟩

set_option maxHeartbeats 1000000 in
theorem eqI_full (g h ca cb : Nat) (zs : List Int) (w : World) (hb : zs.length ≤ 1048576)
    (hg : ∀ j, (hj : j < zs.length) → w.cell? ⟨g, j, none⟩ = some (.int .i64 zs[j])) (hh : ∀ j, (hj : j < zs.length) → w.cell? ⟨h, j, none⟩ = some (.int .i64 zs[j])) :
    Calls Tryz.prog 27 #[.slice (some ⟨g, 0, none⟩) zs.length ca, .slice (some ⟨h, 0, none⟩) zs.length cb] w fun e w' => e = .returned (.bool true) ∧ ∃ q, w' = w.drewN q := by
  have HG := Lib.hid hg
  have HH := Lib.hid hh
  clear hg hh
  go_enter Tryz.func27, Tryz.ntmps27
  go_wp2_with fail
  go_loopw [5] (fun i wr => ∃ (j q : Nat), i = .int .i64 (j : Int) ∧ j ≤ zs.length ∧ wr = w.drewN q) (fun i _ => zs.length - (intOf i).toNat)
  case atStart => exact ⟨0, 0, rfl, Nat.zero_le _, rfl⟩
  case round =>
    obtain ⟨j, q, rfl, hj, rfl⟩ := hrel
    by_cases hlt : j < zs.length
    · have c1 := HG.out j hlt
      have c2 := HH.out j hlt
      generalize zs[j] = z at *
      go_wp2_with fail
      go_quiet (fail)
      go_wp2_with fail
      go_roundw
      case rel => exact ⟨j + 1, _, by go_num, by omega, rfl⟩
      case measure => (simp [intOf] <;> omega)
    · go_wp2_with fail
      go_ret
      exact ⟨rfl, q, rfl⟩

theorem cells_own {w : World} {B g cap : Nat} {e : TypeId} {zs : List Int} (h : w.ownsRow B e 1 (.slice (some ⟨g, 0, none⟩) zs.length cap) zs.length (zs.map (Value.int .i64))) :
    ∀ j, (hj : j < zs.length) → w.cell? ⟨g, j, none⟩ = some (.int .i64 zs[j]) := by
  intro j hj
  rw [h.cellAt j (by omega), List.getElem?_map, List.getElem?_eq_getElem hj]
  rfl
theorem eqI_same {B C : Nat} {v u : Value} {zs : List Int} {w : World} (hb : zs.length ≤ 1048576) (h1 : w.ownsRow B 2 1 v zs.length (zs.map (Value.int .i64))) (h2 : w.ownsRow C 2 1 u zs.length (zs.map (Value.int .i64))) :
    Calls Tryz.prog 27 #[v, u] w fun e w' => e = .returned (.bool true) ∧ ∃ q, w' = w.drewN q := by
  by_cases hz : zs.length = 0
  · rw [hz] at h1 h2
    rcases Go.Joins.ownsRow_forms h1 with ⟨rfl, _⟩ | ⟨g, c, rfl⟩ <;> rcases Go.Joins.ownsRow_forms h2 with ⟨rfl, _⟩ | ⟨g', c', rfl⟩ <;> exact eqI_empty _ _ _ _ _
  · obtain ⟨g, c, rfl⟩ := Go.Joins.ownsRow_form h1 (by omega)
    obtain ⟨g', c', rfl⟩ := Go.Joins.ownsRow_form h2 (by omega)
    exact eqI_full g g' c c' zs w hb (cells_own h1) (cells_own h2)

/-- The marks so far, the old numbers behind them. -/
def marked (k : Int) (zs : List Int) (j : Nat) : List Int := marks k j ++ zs.drop j
theorem marked_len (k : Int) (zs : List Int) (j : Nat) (h : j ≤ zs.length) : (marked k zs j).length = zs.length := by
  unfold marked
  rw [List.length_append, marks_len, List.length_drop]
  omega
theorem marks_snoc : ∀ (j : Nat) (k : Int), marks k (j + 1) = marks k j ++ [k + j]
  | 0, k => by simp [marks]
  | j + 1, k => by
    rw [marks, marks_snoc j (k + 1), marks, List.cons_append]
    congr 3
    omega
theorem marked_set (k : Int) (zs : List Int) (j : Nat) (h : j < zs.length) : (marked k zs j).set j (k + j) = marked k zs (j + 1) := by
  unfold marked
  rw [marks_snoc, List.drop_eq_getElem_cons h, List.set_append_right _ _ (by rw [marks_len]; omega), marks_len, Nat.sub_self, List.set_cons_zero, List.append_assoc]
  rfl
theorem marked_done (k : Int) (zs : List Int) : marked k zs zs.length = marks k zs.length := by
  unfold marked
  rw [List.drop_length, List.append_nil]

set_option maxHeartbeats 400000 in
theorem markI_empty (a : Option Addr) (ca : Nat) (k : Int) (w : World) :
    Calls Tryz.prog 29 #[.slice a 0 ca, .int .i64 k] w fun e w' => e = .returned (.int .i64 k) ∧ w = w' := by
  go_enter Tryz.func29, Tryz.ntmps29
  go_wp2_with fail
  go_loop [1, 5] (fun t i => i = .int .i64 0 ∧ t = .int .i64 k) (fun _ _ => 0)
  case atStart => exact ⟨rfl, rfl⟩
  case round =>
    obtain ⟨rfl, rfl⟩ := hrel
    go_wp2_with fail
    go_ret
    exact ⟨rfl, rfl⟩

set_option maxHeartbeats 1000000 in
theorem markI_full (B g ca : Nat) (zs : List Int) (k : Int) (w : World) (hb : zs.length ≤ 1048576) (hk0 : 0 ≤ k) (hk1 : k ≤ 1048576)
    (hown : w.ownsRow B 2 1 (.slice (some ⟨g, 0, none⟩) zs.length ca) zs.length (zs.map (Value.int .i64))) :
    Calls Tryz.prog 29 #[.slice (some ⟨g, 0, none⟩) zs.length ca, .int .i64 k] w fun e w' => e = .returned (.int .i64 (k + zs.length)) ∧ w'.ownsRow B 2 1 (.slice (some ⟨g, 0, none⟩) zs.length ca) zs.length ((marks k zs.length).map (Value.int .i64)) ∧ Below B w w' := by
  have hBg := (hown.lt g rfl).1
  have OWN := Lib.hid hown
  clear hown
  go_enter Tryz.func29, Tryz.ntmps29
  go_wp2_with fail
  go_loopw [1, 5] (fun t i wr => ∃ j : Nat, i = .int .i64 (j : Int) ∧ t = .int .i64 (k + j) ∧ j ≤ zs.length ∧ wr.ownsRow B 2 1 (.slice (some ⟨g, 0, none⟩) zs.length ca) zs.length ((marked k zs j).map (Value.int .i64)) ∧ Below B w wr) (fun _ i _ => zs.length - (intOf i).toNat)
  case atStart => exact ⟨0, rfl, by go_num, Nat.zero_le _, OWN.out, Below.refl _ _⟩
  case round =>
    obtain ⟨j, rfl, rfl, hj, hown, hbel⟩ := hrel
    by_cases hlt : j < zs.length
    · have hml := marked_len k zs j hj
      have c1 : ∃ z, wr.cell? ⟨g, j, none⟩ = some (.int .i64 z) := by
        rw [hown.cellAt j (by omega), List.getElem?_map, List.getElem?_eq_getElem (by omega)]
        exact ⟨_, rfl⟩
      obtain ⟨z, c1⟩ := c1
      have f1 : wr.frozen? ⟨g, j, none⟩ = false := hown.frozenAt j
      have hst := (hown.stored j (.int .i64 (k + j))).1
      rw [← List.map_set, marked_set k zs j hlt] at hst
      have ST := Lib.hid hst
      have BL := Lib.hid (hbel.setCell (p := ⟨g, j, none⟩) hBg (.int .i64 (k + j)))
      clear hown hst hml hbel
      go_wp2_with fail
      go_roundw
      case rel => exact ⟨j + 1, by go_num, by go_num, by omega, ST.out, BL.out⟩
      case measure => (simp [intOf] <;> omega)
    · obtain rfl : j = zs.length := by omega
      rw [marked_done] at hown
      go_wp2_with fail
      go_ret
      exact ⟨rfl, hown, hbel⟩
theorem markI_any {B : Nat} {v : Value} {zs : List Int} {w : World} (k : Int) (hb : zs.length ≤ 1048576) (hk0 : 0 ≤ k) (hk1 : k ≤ 1048576) (h : w.ownsRow B 2 1 v zs.length (zs.map (Value.int .i64))) :
    Calls Tryz.prog 29 #[v, .int .i64 k] w fun e w' => e = .returned (.int .i64 (k + zs.length)) ∧ w'.ownsRow B 2 1 v zs.length ((marks k zs.length).map (Value.int .i64)) ∧ Below B w w' := by
  by_cases hz : zs.length = 0
  · obtain rfl : zs = [] := List.length_eq_zero_iff.1 hz
    have fin : ∀ (a : Option Addr) (c : Nat), v = .slice a 0 c → Calls Tryz.prog 29 #[v, .int .i64 k] w fun e w' => e = .returned (.int .i64 (k + (([] : List Int).length : Int))) ∧ w'.ownsRow B 2 1 v ([] : List Int).length ((marks k ([] : List Int).length).map (Value.int .i64)) ∧ Below B w w' := by
      intro a c hv
      subst hv
      refine (markI_empty a c k w).mono fun e w' ⟨he, hw⟩ => ?_
      subst hw
      exact ⟨by rw [he]; exact ret_int (by simp), h, Below.refl _ _⟩
    rcases Go.Joins.ownsRow_forms h with ⟨hv, _⟩ | ⟨g, c, hv⟩
    · exact fin _ _ hv
    · exact fin _ _ hv
  · obtain ⟨g, c, rfl⟩ := Go.Joins.ownsRow_form h (by omega)
    exact markI_full B g c zs k w hb hk0 hk1 h

set_option maxHeartbeats 400000 in
theorem heldI_empty (a : Option Addr) (ca : Nat) (k : Int) (w : World) :
    Calls Tryz.prog 30 #[.slice a 0 ca, .int .i64 k] w fun e w' => e = .returned (.int .i64 k) ∧ w = w' := by
  go_enter Tryz.func30, Tryz.ntmps30
  go_wp2_with fail
  go_loop [1, 5] (fun t i => i = .int .i64 0 ∧ t = .int .i64 k) (fun _ _ => 0)
  case atStart => exact ⟨rfl, rfl⟩
  case round =>
    obtain ⟨rfl, rfl⟩ := hrel
    go_wp2_with fail
    go_ret
    exact ⟨rfl, rfl⟩
set_option maxHeartbeats 1000000 in
theorem heldI_full (g ca n : Nat) (k : Int) (w : World) (hb : n ≤ 1048576) (hk0 : 0 ≤ k) (hk1 : k ≤ 1048576)
    (hc : ∀ j, j < n → w.cell? ⟨g, j, none⟩ = some (.int .i64 (k + j))) :
    Calls Tryz.prog 30 #[.slice (some ⟨g, 0, none⟩) n ca, .int .i64 k] w fun e w' => e = .returned (.int .i64 (k + n)) ∧ w = w' := by
  have HC := Lib.hid hc
  clear hc
  go_enter Tryz.func30, Tryz.ntmps30
  go_wp2_with fail
  go_loop [1, 5] (fun t i => ∃ j : Nat, i = .int .i64 (j : Int) ∧ t = .int .i64 (k + j) ∧ j ≤ n) (fun _ i => n - (intOf i).toNat)
  case atStart => exact ⟨0, rfl, by go_num, Nat.zero_le _⟩
  case round =>
    obtain ⟨j, rfl, rfl, hj⟩ := hrel
    by_cases hlt : j < n
    · have c1 := HC.out j hlt
      go_wp2_with fail
      go_round
      case rel => exact ⟨j + 1, by go_num, by go_num, by omega⟩
      case measure => (simp [intOf] <;> omega)
    · obtain rfl : j = n := by omega
      go_wp2_with fail
      go_ret
      exact ⟨rfl, rfl⟩
theorem heldI_any {B n : Nat} {v : Value} {w : World} (k : Int) (hb : n ≤ 1048576) (hk0 : 0 ≤ k) (hk1 : k ≤ 1048576) (h : w.ownsRow B 2 1 v n ((marks k n).map (Value.int .i64))) :
    Calls Tryz.prog 30 #[v, .int .i64 k] w fun e w' => e = .returned (.int .i64 (k + n)) ∧ w = w' := by
  by_cases hz : n = 0
  · subst hz
    rcases Go.Joins.ownsRow_forms h with ⟨rfl, _⟩ | ⟨g, c, rfl⟩
    · exact (heldI_empty _ _ k w).mono fun e w' ⟨he, hw⟩ => ⟨by rw [he]; exact ret_int (by simp), hw⟩
    · exact (heldI_empty _ _ k w).mono fun e w' ⟨he, hw⟩ => ⟨by rw [he]; exact ret_int (by simp), hw⟩
  · obtain ⟨g, c, rfl⟩ := Go.Joins.ownsRow_form h (by omega)
    refine heldI_full g c n k w hb hk0 hk1 fun j hj => ?_
    rw [h.cellAt j (by omega), List.getElem?_map, marks_get n k j hj]
    rfl
theorem owns_drewN {w : World} {B : Nat} {e : TypeId} {v : Value} {n : Nat} {xs : List Value} (h : w.ownsRow B e 1 v n xs) (q : Nat) : (w.drewN q).ownsRow B e 1 v n xs := h
/-- The digits of a number, none for 0. -/
def dd0 (m : Nat) : List UInt8 := if m = 0 then [] else Lib.decDigits m
theorem dd0_step (m : Nat) (h : m ≠ 0) : dd0 m = dd0 (m / 10) ++ [UInt8.ofNat (48 + m % 10)] := by
  unfold dd0
  rw [if_neg h]
  by_cases c : m < 10
  · rw [ddM_small m c, if_pos (by omega), Nat.mod_eq_of_lt c]; rfl
  · rw [ddM_big m c, if_neg (by omega)]
/-- The text of a number. -/
def mkT (k : Nat) : ByteArray := ⟨(109 :: dd0 k).toArray⟩

theorem bytes_inj' {a b : ByteArray} (h : a.data.toList = b.data.toList) : a = b := WideShapes.bytes_inj h

set_option maxRecDepth 100000 in
set_option maxHeartbeats 1000000 in
theorem markText_any (k : Nat) (w : World) (h0 : 1 ≤ k) (h1 : k ≤ 9000000) :
    Calls Tryz.prog 73 #[.int .i64 (k : Int)] w fun e w' => e = .returned (.string (mkT k)) ∧ Below w.heap.size w w' := by
  have h0' : decide ((k : Int) ≤ 0) = false := by simp; omega
  have h0'' : (k == 0) = false := beq_eq_false_iff_ne.2 (by omega)
  have h0d : decide (k = 0) = false := by simp; omega
  go_enter Tryz.func73, Tryz.ntmps73
  go_wp2_with fail
  go_loopw [0, 3] (fun t o wr => ∃ (m : Nat) (l : List UInt8), t = .int .i64 (m : Int) ∧ o = .string ⟨l.toArray⟩ ∧ l.length + m ≤ k ∧ dd0 m ++ l = dd0 k ∧ Below w.heap.size w wr ∧ w.heap.size ≤ wr.heap.size) (fun t _ _ => (intOf t).toNat)
  case atStart => exact ⟨k, [], rfl, rfl, by simp, List.append_nil _, Below.refl _ _, Nat.le_refl _⟩
  case round =>
    obtain ⟨m, l, rfl, rfl, hm, hl, hbel, hsz⟩ := hrel
    have HL := Lib.hid hl
    clear hl
    by_cases hz : 1 ≤ m
    · have hz' : decide (0 < m) = true := by simp; omega
      have hst := dd0_step m (by omega)
      have HS := Lib.hid hst
      clear hst
      have hconv := run_convert_bytes_arg (P := Tryz.prog) (wr.alloc (.cells #[.int .u8 (48 + (m : Int) % 10)] 5)) 136 5 Tryz.underlying136 Tryz.underlying5 wr.heap.size 0 1 1 [48 + (m : Int) % 10] rfl (fun i hi => by
        obtain rfl : i = 0 := by omega
        simp) 9 Tryz.underlying9
      have hsl : ¬ 9223372036854775807 < (strOfNums [48 + (m : Int) % 10]).size + l.length := by
        rw [strOfNums_size]; simp; omega
      have hstr : strOfNums [48 + (m : Int) % 10] ++ (⟨l.toArray⟩ : ByteArray) = ⟨(UInt8.ofNat (48 + m % 10) :: l).toArray⟩ := by
        apply bytes_inj'
        rw [ByteArray.data_append, Array.toList_append, strOfNums_data]
        have : (48 + (m : Int) % 10).toNat = 48 + m % 10 := by omega
        simp [this]
      have HT := Lib.hid hstr
      clear hstr
      have hb2 := hbel.alloc hsz (.cells #[.int .u8 (48 + (m : Int) % 10)] 5)
      clear hbel
      go_wp2_with fail
      go_roundw
      case rel => exact ⟨m / 10, UInt8.ofNat (48 + m % 10) :: l, by go_num, by rw [HT.out], by rw [List.length_cons]; omega, by rw [← HL.out, HS.out, List.append_assoc]; rfl, hb2, by simp; omega⟩
      case measure => (simp [intOf] <;> omega)
    · obtain rfl : m = 0 := by omega
      have hl : l = dd0 k := by have := HL.out; simpa [dd0] using this
      have LL := Lib.hid hl
      have hsl : ¬ 9223372036854775807 < 1 + l.length := by omega
      have hsl2 : ¬ 9223372036854775807 < l.length + 1 := by omega
      clear hl
      go_wp2_with fail
      go_ret
      exact ⟨ret_str (by rw [LL.out]; rfl), hbel⟩
theorem markText_int (n : Int) (k : Nat) (hk : n = (k : Int)) (w : World) (h0 : 1 ≤ k) (h1 : k ≤ 9000000) :
    Calls Tryz.prog 73 #[.int .i64 n] w fun e w' => e = .returned (.string (mkT k)) ∧ Below w.heap.size w w' := by
  subst hk
  exact markText_any k w h0 h1


theorem gb_refl (w : World) (row : Option Nat) : w.grownBy w row := ⟨rfl, rfl, rfl, Nat.le_refl _, fun _ _ _ => rfl⟩
theorem gb_trans {a b c : World} {row : Option Nat} (h : a.grownBy b row) (k : b.grownBy c row) : a.grownBy c row :=
  ⟨k.os.trans h.os, k.tape.trans h.tape, k.output.trans h.output, Nat.le_trans h.size k.size, fun i hi hne => (k.block i (Nat.lt_of_lt_of_le hi h.size) hne).trans (h.block i hi hne)⟩
theorem gb_of_below {a b : World} (row : Option Nat) (h : Below a.heap.size a b) : a.grownBy b row := ⟨h.os, h.tape, h.output, h.size, fun i hi _ => h.block i hi⟩
theorem gb_below {a b : World} {g B : Nat} (h : a.grownBy b (some g)) (hB : B ≤ g) (hw : B ≤ a.heap.size) : Below B a b :=
  ⟨h.os, h.tape, h.output, h.size, fun i hi => h.block i (by omega) (by simp; omega)⟩
theorem gb_put (w : World) (g o : Nat) (x : StarV) : w.grownBy (putAt w g o x) (some g) := by
  have hb : Below 0 w (putAt w g o x) := putAt_below (Below.refl _ _) (Nat.zero_le _)
  refine ⟨hb.os, hb.tape, hb.output, hb.size, fun k hk hne => ?_⟩
  have hne' : k ≠ g := fun e => hne (by rw [e])
  unfold putAt
  rw [heap_setCell_other _ _ _ _ hne', heap_setCell_other _ _ _ _ hne', heap_setCell_other _ _ _ _ hne', heap_setCell_other _ _ _ _ hne', heap_setCell_other _ _ _ _ hne']

theorem withR_len (zs : List StarV) (p q r : Int) : (withR zs p q r).1.length ≤ zs.length := by
  unfold withR
  split
  · split
    · exact nearL_len _ _ _
    · exact Nat.zero_le _
  · exact Nat.zero_le _
theorem withP_mk {L : List Int} {c : Int} {w w' : World} {e : Ending} (h : WithPost (L, c) w e w') : ∃ v, e = .returned (.tuple #[v, .int .i64 c]) ∧ w'.ownsRow w.heap.size 2 1 v L.length (L.map (Value.int .i64)) ∧ Below w.heap.size w w' := h
theorem owns_far {w : World} {B g : Nat} {e : TypeId} {v : Value} {n : Nat} {xs : List Value} (h : w.ownsRow B e 1 v n xs) (hg : g < B) : v.ownBlock = none ∨ v.ownBlock ≠ some g := by
  cases hb : v.ownBlock with
  | none => exact Or.inl rfl
  | some b =>
    refine Or.inr (fun e => ?_)
    have h1 := (h.lt b hb).1
    have h2 : b = g := by simpa using e
    omega

set_option maxRecDepth 100000 in
set_option maxHeartbeats 1000000 in
theorem markSt_full (g cap : Nat) (zs : List StarV) (w : World) (hb : zs.length ≤ 1048577) (h1 : Row w g zs) :
    Calls Tryz.prog 28 #[.slice (some ⟨g, 0, none⟩) zs.length cap, .int .i64 1] w fun e w' => e = .returned (.int .i64 (1 + 5 * (zs.length : Int))) ∧ w.grownBy w' (some g) := by
  have H1 := Lib.hid h1
  clear h1
  go_enter Tryz.func28, Tryz.ntmps28
  go_wp2_with fail
  go_loopg [1, 5] (zs.length + 1) (fun kx s1 s5 wr => ∃ (j : Nat) (ys : List StarV), s1 = .int .i64 (1 + 5 * (j : Int)) ∧ s5 = .int .i64 (j : Int) ∧ j ≤ zs.length ∧ kx = zs.length + 1 - j ∧ ys.length = zs.length ∧ Hid (Row wr g ys) ∧ Hid (w.grownBy wr (some g)))
  case atStart => exact ⟨0, zs, by go_num, rfl, Nat.zero_le _, rfl, rfl, H1, Lib.hid (gb_refl _ _)⟩
  case round =>
    obtain ⟨j, ys, rfl, rfl, hj, rfl, hy, HR, HG⟩ := hrel
    by_cases hlt : j < zs.length
    · have j0 : (0 : Int) ≤ (j : Int) := by omega
      have j1 : (j : Int) < (zs.length : Int) := by omega
      go_wp2_with fail
      refine (markText_int _ (1 + 5 * j) (by omega) _ (by omega) (by omega)).mono ?_
      rintro e w2 ⟨rfl, hb2⟩
      have hR2 := HR.out.below hb2
      have HG2 := Lib.hid (gb_trans HG.out (gb_of_below _ hb2))
      obtain ⟨d0, d1, d2, d3, d4⟩ := hR2.at j (by omega)
      have f0 := hR2.free (j * 5)
      have f1 := hR2.free (j * 5 + 1)
      have f2 := hR2.free (j * 5 + 2)
      have f3 := hR2.free (j * 5 + 3)
      have f4 := hR2.free (j * 5 + 4)
      generalize ys[j]'(by omega) = y at d0 d1 d2 d3 d4
      have PU := Lib.hid (fun x => hR2.put j (by omega) x)
      clear hb2 hR2
      generalize mkT (1 + 5 * j) = tx at *
      go_wp2_with fail
      go_roundg (zs.length + 1 - (j + 1))
      case measure => omega
      case rel => exact ⟨j + 1, _, by go_num, by go_num, by omega, by omega, by rw [List.length_set]; exact hy, Lib.hid (PU.out ⟨_, _, _, _, _⟩), Lib.hid (gb_trans HG2.out (gb_put _ _ _ ⟨_, _, _, _, _⟩))⟩
    · obtain rfl : j = zs.length := by omega
      go_wp2_with fail
      go_ret
      exact ⟨ret_int (by omega), HG.out⟩
end Go.Proofs.YtoellkbmhpekdaaGreatDoor
