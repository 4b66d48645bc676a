/-
  SameCues, ShowEnd, CueNamed (both packages).
-/
import Derived.Test.YtfloppjkfcbgiaaCueV
import Derived.Test.YtfloppjkfcbgiaaCueP
import Derived.Test.YtfloppjkfcbgiaaCueS
import Derived.Test.YtfloppjkfcbgiaaMnMx
namespace Go.Proofs.Ytfloppjkfcbgiaa.Cue
open Go.RowKit
open Sm (memS)
set_option linter.unusedVariables false

set_option maxRecDepth 100000 in
set_option maxHeartbeats 1000000 in
theorem same_full (g g' cap cap' : Nat) (xs ys : List V) (w : World) (hb : xs.length ≤ 1048577) (hl : xs.length = ys.length) (h1 : Row w g xs) (h2 : Row w g' ys) :
    Calls Try.prog 62 #[.slice (some ⟨g, 0, none⟩) xs.length cap, .slice (some ⟨g', 0, none⟩) ys.length cap'] w fun e w' => e = .returned (.bool (eqTo xs ys xs.length)) ∧ Below w.heap.size w w' := by
  have H1 := Lib.hid h1
  have H2 := Lib.hid h2
  have KN := Lib.hid (eqTo_next xs ys)
  have KS := Lib.hid (eqTo_stop xs ys)
  clear h1 h2
  rw [← hl]
  have HL := Lib.hid hl
  clear hl
  go_enter Try.func62, Try.ntmps62
  go_wp2_with fail
  go_loopg [5] (xs.length + 1) (fun kx s5 wr => ∃ j : Nat, s5 = .int .i64 (j : Int) ∧ j ≤ xs.length ∧ kx = xs.length + 1 - j ∧ Hid (eqTo xs ys j = true) ∧ Hid (Below w.heap.size w wr))
  case atStart => exact ⟨0, rfl, Nat.zero_le _, rfl, Lib.hid rfl, Lib.hid (Below.refl _ _)⟩
  case round =>
    obtain ⟨j, rfl, hj, rfl, HO, HB⟩ := hrel
    by_cases hlt : j < xs.length
    · have hlt' : j < ys.length := by rw [← HL.out]; exact hlt
      obtain ⟨c0, c1, c2, c3, c4, c5⟩ := (H1.out.below HB.out).at j hlt
      obtain ⟨d0, d1, d2, d3, d4, d5⟩ := (H2.out.below HB.out).at j hlt'
      have HN := Lib.hid (KN.out j)
      have HS := Lib.hid (KS.out j hlt)
      rw [getD_at xs j hlt, getD_at ys j hlt'] at HN HS
      generalize xs[j] = x at *
      generalize ys[j] = y at *
      have NE : ∀ w, (binOp .neq 26 (.agg #[.string x.f0, .int .i64 x.f1, .int .i64 x.f2, .string x.f3, .int .i64 x.f4, .int .i64 x.f5]) (.agg #[.string y.f0, .int .i64 y.f1, .int .i64 y.f2, .string y.f3, .int .i64 y.f4, .int .i64 y.f5])).run Try.prog w = .ok (.bool (!(eqV x y))) w := fun w => neq_run x y w
      have EG : ∀ (p q : Operand) (w : World), (eqGuard .neq 26 p q (.agg #[.string x.f0, .int .i64 x.f1, .int .i64 x.f2, .string x.f3, .int .i64 x.f4, .int .i64 x.f5]) (.agg #[.string y.f0, .int .i64 y.f1, .int .i64 y.f2, .string y.f3, .int .i64 y.f4, .int .i64 y.f5])).run Try.prog w = .ok () w := fun p q w => run_eqGuard_agg w .neq 26 p q _ _ eq_guard
      generalize eqV x y = q at *
      obtain ⟨x0, x1, x2, x3, x4, x5⟩ := x
      obtain ⟨y0, y1, y2, y3, y4, y5⟩ := y
      simp only at c0 c1 c2 c3 c4 c5 d0 d1 d2 d3 d4 d5 NE EG
      have j0 : (0 : Int) ≤ (j : Int) := by omega
      have j1 : (j : Int) < (xs.length : Int) := by omega
      cases q with
      | true =>
        have HT : Hid (eqTo xs ys (j + 1) = true) := Lib.hid (by rw [HN.out, HO.out]; rfl)
        clear HN HS KN KS
        go_wp2_with fail
        go_quiet (fail)
        rename Nat => q1
        go_wp2_with fail
        go_roundg (xs.length + 1 - (j + 1))
        case measure => omega
        case rel => exact ⟨j + 1, by go_num, by omega, by omega, HT, Lib.hid (bel_drewNS HB.out _)⟩
      | false =>
        have HR := Lib.hid (HS.out rfl)
        clear HN HS KN KS
        go_wp2_with fail
        go_quiet (fail)
        rename Nat => q1
        go_wp2_with fail
        go_ret
        exact ⟨ret_bool HR.out.symm, bel_drewNS HB.out _⟩
    · obtain rfl : j = xs.length := by omega
      go_wp2_with fail
      go_ret
      exact ⟨ret_bool HO.out.symm, HB.out⟩
set_option maxHeartbeats 400000 in
theorem same_any (g g' cap cap' : Nat) (xs ys : List V) (w : World) (hb : xs.length ≤ 1048577) (hb2 : ys.length ≤ 1048577) (h1 : Row w g xs) (h2 : Row w g' ys) :
    Calls Try.prog 62 #[.slice (some ⟨g, 0, none⟩) xs.length cap, .slice (some ⟨g', 0, none⟩) ys.length cap'] w fun e w' => e = .returned (.bool (sameL xs ys)) ∧ Below w.heap.size w w' := by
  by_cases hl : xs.length = ys.length
  · have : sameL xs ys = eqTo xs ys xs.length := by unfold sameL; simp [hl]
    rw [this]
    exact same_full g g' cap cap' xs ys w hb hl h1 h2
  · have : sameL xs ys = false := by unfold sameL; simp [hl]
    rw [this]
    have hne : ((xs.length : Int) = (ys.length : Int)) = False := by simp; omega
    clear h1 h2 this
    go_enter Try.func62, Try.ntmps62
    go_wp2_with fail
    go_ret
    exact ⟨rfl, Below.refl _ _⟩


set_option maxHeartbeats 400000 in
theorem specSame_any (g g' cap cap' : Nat) (xs ys : List V) (w : World) (hb : xs.length ≤ 1048577) (hb2 : ys.length ≤ 1048577) (h1 : Row w g xs) (h2 : Row w g' ys) :
    Calls Try.prog 23 #[.slice (some ⟨g, 0, none⟩) xs.length cap, .slice (some ⟨g', 0, none⟩) ys.length cap'] w fun e w' => e = .returned (.bool (sameL xs ys)) ∧ Below w.heap.size w w' := by
  have O := Lib.hid (same_any g g' cap cap' xs ys w hb hb2 h1 h2)
  clear h1 h2
  go_enter Try.func23, Try.ntmps23
  go_wp2_with fail
  refine (O.out).mono ?_
  rintro e w1 ⟨rfl, hb1⟩
  go_wp2_with fail
  go_ret
  exact ⟨rfl, hb1⟩
set_option maxHeartbeats 400000 in
theorem implSame_any (g g' cap cap' : Nat) (xs ys : List V) (w : World) (hb : xs.length ≤ 1048577) (hb2 : ys.length ≤ 1048577) (h1 : Row w g xs) (h2 : Row w g' ys) :
    Calls Try.prog 24 #[.slice (some ⟨g, 0, none⟩) xs.length cap, .slice (some ⟨g', 0, none⟩) ys.length cap'] w fun e w' => e = .returned (.bool (sameL xs ys)) ∧ Below w.heap.size w w' := by
  have O := Lib.hid (equal_any g g' cap cap' xs ys w hb hb2 h1 h2)
  clear h1 h2
  go_enter Try.func24, Try.ntmps24
  go_wp2_with fail
  refine (O.out).mono ?_
  rintro e w1 ⟨rfl, hb1⟩
  go_wp2_with fail
  go_ret
  exact ⟨rfl, hb1⟩

/-- The greatest end of the first j. -/
def endN (zs : List V) : Nat → Int
  | 0 => 0
  | j + 1 => if endN zs j < (zs.getD j zero).f1 + (zs.getD j zero).f2 then (zs.getD j zero).f1 + (zs.getD j zero).f2 else endN zs j
theorem endN_bd {zs : List V} (h : cuesB zs = true) : ∀ j, j ≤ zs.length → 0 ≤ endN zs j ∧ endN zs j ≤ 7200000
  | 0, _ => ⟨Int.le_refl _, by show (0 : Int) ≤ 7200000; decide⟩
  | j + 1, hj => by
    have ih := endN_bd h j (by omega)
    have g := good_bd (cuesB_good h j (by omega))
    unfold endN
    split <;> omega
def endV (zs : List V) : Int × Int := if cuesB zs = true then (endN zs zs.length, 0) else (0, 1)

set_option maxRecDepth 100000 in
set_option maxHeartbeats 4000000 in
theorem l13End_any (g cap : Nat) (zs : List V) (w : World) (hb : zs.length ≤ 1048577) (h1 : Row w g zs) (ho : cuesB zs = true) :
    Calls Try.prog 80 #[.slice (some ⟨g, 0, none⟩) zs.length cap] w fun e w' => e = .returned (.int .i64 (endN zs zs.length)) ∧ Below w.heap.size w w' := by
  have H1 := Lib.hid h1
  have HO := Lib.hid ho
  have EN : Hid (∀ j, endN zs (j + 1) = if endN zs j < (zs.getD j zero).f1 + (zs.getD j zero).f2 then (zs.getD j zero).f1 + (zs.getD j zero).f2 else endN zs j) := Lib.hid (fun _ => rfl)
  have EB := Lib.hid (endN_bd ho)
  have E0 : endN zs 0 = 0 := rfl
  clear h1 ho
  generalize endN zs = En at *
  go_enter Try.func80, Try.ntmps80
  go_wp2_with fail
  go_loopg [3, 4] (zs.length + 1) (fun kx s3 s4 wr => ∃ j : Nat, s3 = .int .i64 (En j) ∧ s4 = .int .i64 (j : Int) ∧ j ≤ zs.length ∧ kx = zs.length + 1 - j ∧ Hid (Below w.heap.size w wr))
  case atStart => exact ⟨0, by rw [E0], rfl, Nat.zero_le _, rfl, Lib.hid (Below.refl _ _)⟩
  case round =>
    obtain ⟨j, rfl, rfl, hj, rfl, HB⟩ := hrel
    by_cases hlt : j < zs.length
    · have j0 : (0 : Int) ≤ (j : Int) := by omega
      have j1 : (j : Int) < (zs.length : Int) := by omega
      obtain ⟨c0, c1, c2, c3, c4, c5⟩ := (H1.out.below HB.out).at j hlt
      have gb := good_bd (cuesB_good HO.out j hlt)
      have ENj := EN.out j
      have b1 := EB.out j hj
      rw [getD_at zs j hlt] at gb ENj
      clear c0 c3 c4 c5
      generalize zs[j].f1 = t at *
      generalize zs[j].f2 = l at *
      have hs1 : 0 ≤ t + l ∧ t + l ≤ 7200000 := by omega
      clear gb
      have M := Lib.hid (fun w => l00Max_any (En j) (t + l) w)
      have hm : (if t + l < En j then En j else t + l) = En (j + 1) := by
        rw [ENj]
        split <;> split <;> omega
      rw [hm] at M
      clear ENj hm
      generalize hE1 : En (j + 1) = e1 at *
      have HE1 := Lib.hid hE1
      clear hE1
      generalize En j = e0 at *
      go_wp2_with fail
      go_quiet ((go_at_call 103; with_reducible exact quiet_leftC (M.out _)))
      rename Nat => q1
      go_wp2_with fail
      go_roundg (zs.length + 1 - (j + 1))
      case measure => omega
      case rel => exact ⟨j + 1, by rw [HE1.out], by go_num, by omega, by omega, Lib.hid (bel_dC HB.out _)⟩
    · obtain rfl : j = zs.length := by omega
      go_wp2_with fail
      go_ret
      exact ⟨rfl, HB.out⟩
set_option maxHeartbeats 1000000 in
theorem specEnd_any (g cap : Nat) (zs : List V) (w : World) (hb : zs.length ≤ 1048577) (h1 : Row w g zs) :
    Calls Try.prog 45 #[.slice (some ⟨g, 0, none⟩) zs.length cap] w fun e w' => e = .returned (.tuple #[.int .i64 (endV zs).1, .int .i64 (endV zs).2]) ∧ Below w.heap.size w w' := by
  have V := Lib.hid (okS_any g cap zs w hb h1)
  have EE := Lib.hid (fun (W : World) (hB : Below w.heap.size w W) ho => l13End_any g cap zs W hb (h1.below hB) ho)
  clear h1
  unfold endV
  cases ho : cuesB zs with
  | false =>
    rw [if_neg (by simp)]
    rw [ho] at V
    clear ho
    go_enter Try.func45, Try.ntmps45
    go_wp2_with fail
    refine V.out.mono ?_
    rintro e w1 ⟨rfl, hb1⟩
    go_wp2_with fail
    go_ret2
    exact ⟨rfl, hb1⟩
  | true =>
    rw [if_pos rfl]
    rw [ho] at V
    have EE2 := Lib.hid (fun (W : World) (hB : Below w.heap.size w W) => EE.out W hB ho)
    clear EE ho
    generalize endN zs zs.length = r at *
    go_enter Try.func45, Try.ntmps45
    go_wp2_with fail
    refine V.out.mono ?_
    rintro e w1 ⟨rfl, hb1⟩
    have HB1 := Lib.hid hb1
    clear hb1
    go_wp2_with fail
    refine (EE2.out _ HB1.out).mono ?_
    rintro e w2 ⟨rfl, hb2⟩
    have HB2 := Lib.hid (HB1.out.trans (hb2.mono HB1.out.size))
    clear hb2
    go_wp2_with fail
    go_ret2
    exact ⟨rfl, HB2.out⟩
set_option maxHeartbeats 1000000 in
theorem end_any (x0 : ByteArray) (x1 x2 : Int) (x3 : ByteArray) (x4 x5 : Int) (w : World) (h1 : 0 ≤ x1 ∧ x1 ≤ 7200000) (h2 : 0 ≤ x2 ∧ x2 ≤ 7200000) :
    Calls Try.prog 81 #[.agg #[.string x0, .int .i64 x1, .int .i64 x2, .string x3, .int .i64 x4, .int .i64 x5]] w fun e w' => e = .returned (.int .i64 (x1 + x2)) ∧ Below w.heap.size w w' := by
  go_enter Try.func81, Try.ntmps81
  go_wp2_with fail
  go_ret
  refine ⟨rfl, ?_⟩
  repeat (first | exact Below.refl _ _ | refine Below.setCell ?_ (by first | (simp; done) | omega | (simp; omega)) _ | refine Below.alloc ?_ (by first | (simp; done) | omega | (simp; omega)) _ | refine bel_drew ?_)
set_option maxRecDepth 100000 in
set_option maxHeartbeats 4000000 in
theorem implEnd_any (g cap : Nat) (zs : List V) (w : World) (hb : zs.length ≤ 1048577) (h1 : Row w g zs) (hok : ∀ j, (h : j < zs.length) → zs[j].txt) :
    Calls Try.prog 46 #[.slice (some ⟨g, 0, none⟩) zs.length cap] w fun e w' => e = .returned (.tuple #[.int .i64 (endV zs).1, .int .i64 (endV zs).2]) ∧ Below w.heap.size w w' := by
  have V := Lib.hid (implValid_any g cap zs w hb h1 hok)
  have H1 := Lib.hid h1
  clear h1 hok
  unfold endV
  cases ho : cuesB zs with
  | false =>
    rw [if_neg (by simp)]
    rw [ho] at V
    clear ho
    go_enter Try.func46, Try.ntmps46
    go_wp2_with fail
    refine V.out.mono ?_
    rintro e w1 ⟨rfl, hb1⟩
    go_wp2_with fail
    go_ret2
    exact ⟨rfl, hb1⟩
  | true =>
    rw [if_pos rfl]
    rw [ho] at V
    have HO := Lib.hid ho
    have EN : Hid (∀ j, endN zs (j + 1) = if endN zs j < (zs.getD j zero).f1 + (zs.getD j zero).f2 then (zs.getD j zero).f1 + (zs.getD j zero).f2 else endN zs j) := Lib.hid (fun _ => rfl)
    have EB := Lib.hid (endN_bd ho)
    have E0 : endN zs 0 = 0 := rfl
    clear ho
    generalize endN zs = En at *
    go_enter Try.func46, Try.ntmps46
    go_wp2_with fail
    refine V.out.mono ?_
    rintro e w1 ⟨rfl, hb1⟩
    have HB1 := Lib.hid hb1
    clear hb1
    go_wp2_with fail
    go_loopg [4, 12] (zs.length + 1) (fun kx s4 s12 wr => ∃ j : Nat, s4 = .int .i64 (En j) ∧ s12 = .int .i64 (j : Int) ∧ j ≤ zs.length ∧ kx = zs.length + 1 - j ∧ Hid (Below w.heap.size w wr))
    case atStart => exact ⟨0, by rw [E0], rfl, Nat.zero_le _, rfl, HB1⟩
    case round =>
      obtain ⟨j, rfl, rfl, hj, rfl, HB⟩ := hrel
      by_cases hlt : j < zs.length
      · have j0 : (0 : Int) ≤ (j : Int) := by omega
        have j1 : (j : Int) < (zs.length : Int) := by omega
        obtain ⟨c0, c1, c2, c3, c4, c5⟩ := (H1.out.below HB.out).at j hlt
        have gb := good_bd (cuesB_good HO.out j hlt)
        have ENj := EN.out j
        have b1 := EB.out j hj
        rw [getD_at zs j hlt] at gb ENj
        generalize zs[j] = x at *
        obtain ⟨x0, x1, x2, x3, x4, x5⟩ := x
        simp only at c0 c1 c2 c3 c4 c5 gb ENj
        have T := Lib.hid (fun w => end_any x0 x1 x2 x3 x4 x5 w (by omega) (by omega))
        have hs1 : 0 ≤ x1 + x2 ∧ x1 + x2 ≤ 7200000 := by omega
        clear gb
        by_cases hc : En j < x1 + x2
        · rw [if_pos hc] at ENj
          have hc2 : ¬ x1 + x2 ≤ En j := by omega
          have hc3 : En j ≤ x1 + x2 := by omega
          generalize hE1 : En (j + 1) = e1 at *
          have HE1 := Lib.hid hE1
          clear hE1
          generalize En j = e0 at *
          generalize x1 + x2 = s at *
          subst ENj
          go_wp2_with fail
          refine (T.out _).mono ?_
          rintro e w2 ⟨rfl, hb2⟩
          have HB2 : Hid (Below w.heap.size w w2) := Lib.hid ((HB.out.alloc HB.out.size _).trans (hb2.mono (by have := HB.out.size; simp; omega)))
          clear hb2 c0 c1 c2 c3 c4 c5
          go_wp2_with fail
          go_roundg (zs.length + 1 - (j + 1))
          case measure => omega
          case rel => exact ⟨j + 1, by rw [HE1.out], by go_num, by omega, by omega, HB2⟩
        · rw [if_neg hc] at ENj
          have hc2 : x1 + x2 ≤ En j := by omega
          generalize hE1 : En (j + 1) = e1 at *
          have HE1 := Lib.hid hE1
          clear hE1
          generalize En j = e0 at *
          generalize x1 + x2 = s at *
          subst ENj
          go_wp2_with fail
          refine (T.out _).mono ?_
          rintro e w2 ⟨rfl, hb2⟩
          have HB2 : Hid (Below w.heap.size w w2) := Lib.hid ((HB.out.alloc HB.out.size _).trans (hb2.mono (by have := HB.out.size; simp; omega)))
          clear hb2 c0 c1 c2 c3 c4 c5
          go_wp2_with fail
          go_roundg (zs.length + 1 - (j + 1))
          case measure => omega
          case rel => exact ⟨j + 1, by rw [HE1.out], by go_num, by omega, by omega, HB2⟩
      · obtain rfl : j = zs.length := by omega
        go_wp2_with fail
        go_ret2
        exact ⟨rfl, HB.out⟩

def namedV (zs : List V) (s : ByteArray) : Int × Int := if cuesB zs = true then (if fndS zs s < zs.length then ((fndS zs s : Int), 0) else (0, 3)) else (0, 1)
def NPost (r : Int × Int) (w : World) (e : Ending) (w' : World) : Prop := e = .returned (.tuple #[.int .i64 r.1, .int .i64 r.2]) ∧ Below w.heap.size w w'
set_option maxRecDepth 100000 in
set_option maxHeartbeats 2000000 in
theorem specNamed_any (g cap : Nat) (zs : List V) (s : ByteArray) (w : World) (hb : zs.length ≤ 1048577) (h1 : Row w g zs) :
    Calls Try.prog 25 #[.slice (some ⟨g, 0, none⟩) zs.length cap, .string s] w (NPost (namedV zs s) w) := by
  have V := Lib.hid (okS_any g cap zs w hb h1)
  have F := Lib.hid (fun (W : World) (hB : Below w.heap.size w W) => find_any g cap zs s W hb (h1.below hB))
  clear h1
  unfold namedV
  cases ho : cuesB zs with
  | false =>
    rw [if_neg (by simp)]
    rw [ho] at V
    clear ho
    go_enter Try.func25, Try.ntmps25
    go_wp2_with fail
    refine V.out.mono ?_
    rintro e w1 ⟨rfl, hb1⟩
    go_wp2_with fail
    go_ret2
    exact ⟨rfl, hb1⟩
  | true =>
    rw [if_pos rfl]
    rw [ho] at V
    have hz32 := cuesB_len ho
    clear ho
    by_cases hf : fndS zs s < zs.length
    · rw [if_pos hf]
      have fe : fndI zs s = (fndS zs s : Int) := if_pos hf
      rw [fe] at F
      clear fe
      generalize fndS zs s = f at *
      go_enter Try.func25, Try.ntmps25
      go_wp2_with fail
      refine V.out.mono ?_
      rintro e w1 ⟨rfl, hb1⟩
      have HB1 := Lib.hid hb1
      clear hb1
      go_wp2_with fail
      refine (F.out _ HB1.out).mono ?_
      rintro e w' ⟨rfl, rfl⟩
      go_wp2_with fail
      go_ret2
      exact ⟨rfl, HB1.out⟩
    · rw [if_neg hf]
      have fe : fndI zs s = -1 := if_neg hf
      rw [fe] at F
      clear fe
      go_enter Try.func25, Try.ntmps25
      go_wp2_with fail
      refine V.out.mono ?_
      rintro e w1 ⟨rfl, hb1⟩
      have HB1 := Lib.hid hb1
      clear hb1
      go_wp2_with fail
      refine (F.out _ HB1.out).mono ?_
      rintro e w' ⟨rfl, rfl⟩
      go_wp2_with fail
      go_ret2
      exact ⟨rfl, HB1.out⟩
set_option maxRecDepth 100000 in
set_option maxHeartbeats 2000000 in
theorem implNamed_any (g cap : Nat) (zs : List V) (s : ByteArray) (w : World) (hb : zs.length ≤ 1048577) (h1 : Row w g zs) (hok : ∀ j, (h : j < zs.length) → zs[j].txt) :
    Calls Try.prog 26 #[.slice (some ⟨g, 0, none⟩) zs.length cap, .string s] w (NPost (namedV zs s) w) := by
  have V := Lib.hid (implValid_any g cap zs w hb h1 hok)
  have PL := Lib.hid (fun (W : World) (hB : Below w.heap.size w W) => places_any g cap zs W hb (h1.below hB))
  clear h1 hok
  unfold namedV
  cases ho : cuesB zs with
  | false =>
    rw [if_neg (by simp)]
    rw [ho] at V
    clear ho
    go_enter Try.func26, Try.ntmps26
    go_wp2_with fail
    refine V.out.mono ?_
    rintro e w1 ⟨rfl, hb1⟩
    go_wp2_with fail
    go_ret2
    exact ⟨rfl, hb1⟩
  | true =>
    rw [if_pos rfl]
    rw [ho] at V
    have KF := keysN_fnd zs s
    have VF := valN_fnd ho s
    clear ho
    by_cases hf : fndS zs s < zs.length
    · rw [if_pos hf]
      have hk := KF.2 hf
      have hv : valV zs zs.length s = .int .i64 (fndS zs s : Int) := by unfold valV; rw [VF hf]
      clear KF VF
      generalize fndS zs s = f at *
      go_enter Try.func26, Try.ntmps26
      go_wp2_with fail
      refine V.out.mono ?_
      rintro e w1 ⟨rfl, hb1⟩
      have HB1 := Lib.hid hb1
      clear hb1
      go_wp2_with fail
      refine (PL.out _ HB1.out).mono ?_
      rintro e w2 ⟨rfl, hm, hb2⟩
      have HB2 := Lib.hid (HB1.out.trans (hb2.mono HB1.out.size))
      have hl := hm.find (P := Try.prog) (t := 71) (k := 9) (e := 3) Try.underlying71 Try.underlying9 s hk
      rw [hv] at hl
      clear hm hb2 hk hv
      go_wp2_with fail
      go_ret2
      exact ⟨rfl, HB2.out⟩
    · rw [if_neg hf]
      have hk : s ∉ keysN zs zs.length := fun h => hf (KF.1 h)
      clear KF VF
      go_enter Try.func26, Try.ntmps26
      go_wp2_with fail
      refine V.out.mono ?_
      rintro e w1 ⟨rfl, hb1⟩
      have HB1 := Lib.hid hb1
      clear hb1
      go_wp2_with fail
      refine (PL.out _ HB1.out).mono ?_
      rintro e w2 ⟨rfl, hm, hb2⟩
      have HB2 := Lib.hid (HB1.out.trans (hb2.mono HB1.out.size))
      have hl := hm.miss (P := Try.prog) (t := 71) (k := 9) (e := 3) Try.underlying71 Try.underlying9 s hk (.int .i64 0) (by kernel_rfl)
      clear hm hb2 hk
      go_wp2_with fail
      go_ret2
      exact ⟨rfl, HB2.out⟩
end Go.Proofs.Ytfloppjkfcbgiaa.Cue
