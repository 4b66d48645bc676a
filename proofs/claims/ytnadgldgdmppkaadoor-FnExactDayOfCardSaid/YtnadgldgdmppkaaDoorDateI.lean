/-
  Dates of days: the contract of dateOf (package impl).
-/
import Derived.Test.YtnadgldgdmppkaaDoorDate
namespace Go.Proofs.YtnadgldgdmppkaaDoor
open Go.RowKit
set_option linter.unusedVariables false

theorem bel_drewNDt {B : Nat} {a w : World} (h : Below B a w) (n : Nat) : Below B a (w.drewN n) := ⟨h.os, h.tape, h.output, h.size, h.block⟩
theorem set3 {W : World} {g : Nat} {p q r x y z : Value} (h0 : W.cell? ⟨g, 0, none⟩ = some p) (h1 : W.cell? ⟨g, 1, none⟩ = some q) (h2 : W.cell? ⟨g, 2, none⟩ = some r) :
    (((W.setCell ⟨g, 0, none⟩ x).setCell ⟨g, 1, none⟩ y).setCell ⟨g, 2, none⟩ z).cell? ⟨g, 0, none⟩ = some x ∧ (((W.setCell ⟨g, 0, none⟩ x).setCell ⟨g, 1, none⟩ y).setCell ⟨g, 2, none⟩ z).cell? ⟨g, 1, none⟩ = some y ∧ (((W.setCell ⟨g, 0, none⟩ x).setCell ⟨g, 1, none⟩ y).setCell ⟨g, 2, none⟩ z).cell? ⟨g, 2, none⟩ = some z := by
  have k1 : (W.setCell ⟨g, 0, none⟩ x).cell? ⟨g, 1, none⟩ = some q := by rw [World.cell?_setCell_other (h := by simp)]; exact h1
  have k2 : ((W.setCell ⟨g, 0, none⟩ x).setCell ⟨g, 1, none⟩ y).cell? ⟨g, 2, none⟩ = some r := by rw [World.cell?_setCell_other (h := by simp), World.cell?_setCell_other (h := by simp)]; exact h2
  refine ⟨?_, ?_, ?_⟩
  · rw [World.cell?_setCell_other (h := by simp), World.cell?_setCell_other (h := by simp), World.cell?_setCell_same (h := h0)]
  · rw [World.cell?_setCell_other (h := by simp), World.cell?_setCell_same (h := k1)]
  · rw [World.cell?_setCell_same (h := k2)]

set_option maxRecDepth 100000 in
set_option maxHeartbeats 2000000 in
theorem dateOf_any (d : Int) (h0 : 0 ≤ d) (h1 : d ≤ 99999) (w : World) (hc : ComOK w) :
    Calls Tryd.prog 57 #[.int .i64 d] w fun e w' => e = .returned (.agg #[.int .i64 (2000 + (yearN d : Int)), .int .i64 ((monN d : Int) + 1), .int .i64 (dayR d + 1)]) ∧ Below w.heap.size w w' := by
  have hy := year_lt d h1
  have hm := mon_lt d h1
  have hr := dayR_bd d h0 h1
  have hst : restAt d 0 0 = d := by unfold restAt; simp [yb, mb]
  have ST := Lib.hid hst
  have E := Lib.hid hc
  clear hst hc
  obtain ⟨W0, hW0⟩ : ∃ W0, W0 = (w.alloc (.cells #[.int .i64 0, .int .i64 0, .int .i64 0] 66)).alloc (.cells #[.int .i64 0, .int .i64 0, .int .i64 0] 66) := ⟨_, rfl⟩
  have hD : DS w W0 0 0 0 := by
    rw [hW0]
    refine ⟨((Below.refl _ w).alloc (Nat.le_refl _) _).alloc (by simp) _, by simp, ⟨by simp, by simp, by simp, by simp, by simp, by simp⟩, by simp, by simp, by simp, by simp, by simp, by simp⟩
  have HD := Lib.hid hD
  have HW := Lib.hid hW0
  clear hD hW0
  have hbl : ∀ w, (Instr.build 66 #[]).run Tryd.prog w = .ok (.agg #[.int .i64 0, .int .i64 0, .int .i64 0]) w := fun w => run_build w _ _ _ (by kernel_rfl)
  go_enter Tryd.func57, Tryd.ntmps57
  go_wp2_with fail
  go_step3
  go_wp2_with fail
  rw [← HW.out]
  go_step3
  go_wp2_with fail
  clear HW hbl
  go_loopg [4, 5] 300 (fun kx s4 s5 wr => ∃ k : Nat, s4 = .int .i64 (restAt d k 0) ∧ s5 = .int .i64 (2000 + (k : Int)) ∧ k ≤ yearN d ∧ kx = 300 - k ∧ Hid (DS w wr 0 0 0))
  case atStart => exact ⟨0, by rw [ST.out], by simp, by omega, by omega, HD⟩
  case round =>
    obtain ⟨k, rfl, rfl, hk, rfl, HS⟩ := hrel
    clear ST HD
    have hle : 2000 + (k : Int) ≤ 2273 := by omega
    have YL := Lib.hid (fun w => yearLen_any (2000 + (k : Int)) (by omega) (by omega) w)
    have hyl := ylen_bd (2000 + (k : Int))
    have hu : upTo d k 0 := ⟨by omega, by by_cases c : k < yearN d; exact .inl c; exact .inr ⟨by omega, by omega⟩⟩
    have hrb := rest_bd d h0 h1 k 0 hu
    by_cases c : k < yearN d
    · have hx : restAt d (k + 1) 0 = restAt d k 0 - ylen (2000 + (k : Int)) := by
        unfold restAt
        have e3 : yb (k + 1) = yb k + ylen (2000 + (k : Int)) := rfl
        have e4 : mb (2000 + ((k + 1 : Nat) : Int)) 0 = 0 := rfl
        have e5 : mb (2000 + (k : Int)) 0 = 0 := rfl
        omega
      have hu2 : upTo d (k + 1) 0 := ⟨by omega, by by_cases c : k + 1 < yearN d; exact .inl c; exact .inr ⟨by omega, by omega⟩⟩
      have hrb2 := rest_bd d h0 h1 (k + 1) 0 hu2
      have hge : ylen (2000 + (k : Int)) ≤ restAt d k 0 := by omega
      have HX := Lib.hid hx
      clear hx hu hu2 hrb2
      generalize restAt d k 0 = r at *
      generalize ylen (2000 + (k : Int)) = y at *
      go_wp2_with fail
      refine (YL.out _).mono ?_
      rintro e w' ⟨rfl, rfl⟩
      go_wp2_with fail
      go_roundg (300 - (k + 1))
      case measure => omega
      case rel => exact ⟨k + 1, congrArg (Value.int .i64) HX.out.symm, congrArg (Value.int .i64) (by omega), by omega, by omega, HS⟩
    · obtain rfl : k = yearN d := by omega
      have hlt : ¬ ylen (2000 + (yearN d : Int)) ≤ restAt d (yearN d) 0 := by
        have h2 := year_up d h1
        have e3 : yb (yearN d + 1) = yb (yearN d) + ylen (2000 + (yearN d : Int)) := rfl
        have e5 : mb (2000 + (yearN d : Int)) 0 = 0 := rfl
        unfold restAt
        omega
      generalize hyy : ylen (2000 + (yearN d : Int)) = y at *
      clear hyy hu
      have ML := Lib.hid (fun w hc => monthLen_any (2000 + (yearN d : Int)) (by omega) (by omega) w hc)
      have hA := monA_size (2000 + (yearN d : Int))
      have hget := monA_at (2000 + (yearN d : Int))
      have HA := Lib.hid hA
      have HG := Lib.hid hget
      clear hA hget
      generalize monA (2000 + (yearN d : Int)) = A at *
      go_wp2_with fail
      refine (YL.out _).mono ?_
      rintro e w' ⟨rfl, rfl⟩
      go_wp2_with fail
      refine (ML.out _ (E.out.below HS.out.1)).mono ?_
      rintro e w1 ⟨rfl, hb1⟩
      have HS1 := Lib.hid (HS.out.on hb1)
      clear hb1 HS hlt hrb hyl
      have GO := Lib.hid (fun m (hm2 : m < monN d) => rest_go d h0 h1 (yearN d) m ⟨by omega, .inr ⟨rfl, by omega⟩⟩ (fun h => by omega))
      have BD := Lib.hid (fun m (hm2 : m ≤ monN d) => rest_bd d h0 h1 (yearN d) m ⟨by omega, .inr ⟨rfl, by omega⟩⟩)
      have NX := Lib.hid (fun m => rest_next d (yearN d) m)
      have EN := Lib.hid (rest_end d)
      have MB := Lib.hid (fun m (hm2 : m < 12) => mlen_bd (2000 + (yearN d : Int)) m hm2)
      go_wp2_with fail
      go_loopg [4, 25] 20 (fun kx s4 s25 wr => ∃ m : Nat, s4 = .int .i64 (restAt d (yearN d) m) ∧ s25 = .int .i64 (m : Int) ∧ m ≤ monN d ∧ kx = 20 - m ∧ Hid (DS w wr 0 0 0))
      case atStart => exact ⟨0, rfl, rfl, by omega, by omega, HS1⟩
      case round =>
        obtain ⟨m, rfl, rfl, hmm, rfl, HS2⟩ := hrel
        clear HS1
        have h12 : (m : Int) < 12 := by omega
        have ix : ∀ w : World, (Instr.index 63 (.agg A) (.int .i64 m)).run Tryd.prog w = .ok (.int .i64 (mlen (2000 + (yearN d : Int)) m)) w := fun w => by rw [idx12 A HA.out m (by omega) w, HG.out m (by omega)]
        have hbm := MB.out m (by omega)
        have hrm := BD.out m hmm
        by_cases cm : m < monN d
        · have hge := GO.out m cm
          have hnx := NX.out m
          have HN := Lib.hid hnx
          generalize mlen (2000 + (yearN d : Int)) m = z at *
          clear hnx
          generalize restAt d (yearN d) m = r at *
          have hnlt : ¬ r < z := by omega
          go_wp2_with fail
          go_roundg (20 - (m + 1))
          case measure => omega
          case rel => exact ⟨m + 1, congrArg (Value.int .i64) HN.out.symm, by go_num, by omega, by omega, HS2⟩
        · obtain rfl : m = monN d := by omega
          rw [EN.out] at *
          have hlt2 := hr.2
          generalize mlen (2000 + (yearN d : Int)) (monN d) = z at *
          obtain ⟨hB, hsz, ⟨a0, a1, a2, a3, a4, a5⟩, b0, b1, b2, b3, b4, b5⟩ := HS2.out
          have HB := Lib.hid hB
          have hsz0 : w.heap.size < wr.heap.size := by omega
          clear hB HS2
          go_wp2_with fail
          generalize 2000 + (yearN d : Int) = Y at *
          generalize (monN d : Int) + 1 = M at *
          generalize dayR d + 1 = D at *
          have A0 : (((wr.setCell ⟨w.heap.size + 1, 0, none⟩ (.int .i64 Y)).setCell ⟨w.heap.size + 1, 1, none⟩ (.int .i64 M)).setCell ⟨w.heap.size + 1, 2, none⟩ (.int .i64 D)).cell? ⟨w.heap.size, 0, none⟩ = some (.int .i64 0) := by rw [World.cell?_setCell_other (h := by simp), World.cell?_setCell_other (h := by simp), World.cell?_setCell_other (h := by simp)]; exact a0
          have A1 : (((wr.setCell ⟨w.heap.size + 1, 0, none⟩ (.int .i64 Y)).setCell ⟨w.heap.size + 1, 1, none⟩ (.int .i64 M)).setCell ⟨w.heap.size + 1, 2, none⟩ (.int .i64 D)).cell? ⟨w.heap.size, 1, none⟩ = some (.int .i64 0) := by rw [World.cell?_setCell_other (h := by simp), World.cell?_setCell_other (h := by simp), World.cell?_setCell_other (h := by simp)]; exact a1
          have A2 : (((wr.setCell ⟨w.heap.size + 1, 0, none⟩ (.int .i64 Y)).setCell ⟨w.heap.size + 1, 1, none⟩ (.int .i64 M)).setCell ⟨w.heap.size + 1, 2, none⟩ (.int .i64 D)).cell? ⟨w.heap.size, 2, none⟩ = some (.int .i64 0) := by rw [World.cell?_setCell_other (h := by simp), World.cell?_setCell_other (h := by simp), World.cell?_setCell_other (h := by simp)]; exact a2
          obtain ⟨r0, r1, r2⟩ := set3 (x := .int .i64 Y) (y := .int .i64 M) (z := .int .i64 D) A0 A1 A2
          have hB6 : Below w.heap.size w ((((((wr.setCell ⟨w.heap.size + 1, 0, none⟩ (.int .i64 Y)).setCell ⟨w.heap.size + 1, 1, none⟩ (.int .i64 M)).setCell ⟨w.heap.size + 1, 2, none⟩ (.int .i64 D)).setCell ⟨w.heap.size, 0, none⟩ (.int .i64 Y)).setCell ⟨w.heap.size, 1, none⟩ (.int .i64 M)).setCell ⟨w.heap.size, 2, none⟩ (.int .i64 D)) := (((((HB.out.setCell (Nat.le_succ _) _).setCell (Nat.le_succ _) _).setCell (Nat.le_succ _) _).setCell (Nat.le_refl _) _).setCell (Nat.le_refl _) _).setCell (Nat.le_refl _) _
          have HB6 := Lib.hid hB6
          clear hB6 A0 A1 A2
          generalize (((((wr.setCell ⟨w.heap.size + 1, 0, none⟩ (.int .i64 Y)).setCell ⟨w.heap.size + 1, 1, none⟩ (.int .i64 M)).setCell ⟨w.heap.size + 1, 2, none⟩ (.int .i64 D)).setCell ⟨w.heap.size, 0, none⟩ (.int .i64 Y)).setCell ⟨w.heap.size, 1, none⟩ (.int .i64 M)).setCell ⟨w.heap.size, 2, none⟩ (.int .i64 D) = W6 at *
          refine bodyPost_ret (v := .agg #[.int .i64 Y, .int .i64 M, .int .i64 D]) (by simp [results, Tryd.results57, go_sem, r0, r1, r2]) rfl ⟨rfl, HB6.out⟩

set_option maxRecDepth 100000 in
set_option maxHeartbeats 1000000 in
theorem implDate_any (d : Int) (w : World) (hc : ComOK w) :
    Calls Tryd.prog 16 #[.int .i64 d] w fun e w' => e = .returned (dateV d) ∧ Below w.heap.size w w' := by
  unfold dateV
  have D := Lib.hid (fun w => isDayD_any d w)
  cases h : inR 0 99999 [d] with
  | false =>
    rw [if_neg (by simp)]
    rw [h] at D
    clear h hc
    go_enter Tryd.func16, Tryd.ntmps16
    go_wp2_with fail
    refine (D.out _).mono ?_
    rintro e w1 ⟨rfl, hb1⟩
    have HB1 := Lib.hid hb1
    clear hb1
    go_wp2_with fail
    exact bodyPost_ret (v := .tuple #[.int .i64 0, .int .i64 0, .int .i64 0, .int .i64 2]) (by simp [results, Tryd.results16, go_sem]) rfl ⟨rfl, HB1.out⟩
  | true =>
    rw [if_pos rfl]
    obtain ⟨h0, h1⟩ := (inR_1 _ _ _).1 h
    rw [h] at D
    clear h
    have T := Lib.hid (fun w hc => dateOf_any d h0 h1 w hc)
    have E := Lib.hid hc
    clear hc
    generalize 2000 + (yearN d : Int) = a at *
    generalize (monN d : Int) + 1 = b at *
    generalize dayR d + 1 = c at *
    go_enter Tryd.func16, Tryd.ntmps16
    go_wp2_with fail
    refine (D.out _).mono ?_
    rintro e w1 ⟨rfl, hb1⟩
    have HB1 := Lib.hid hb1
    clear hb1
    go_wp2_with fail
    refine (T.out _ (E.out.below HB1.out)).mono ?_
    rintro e w2 ⟨rfl, hb2⟩
    have HB2 := Lib.hid (HB1.out.trans (hb2.mono HB1.out.size))
    clear hb2
    obtain ⟨W3, hW3⟩ : ∃ W3, W3 = w2.alloc (.cells #[.int .i64 a, .int .i64 b, .int .i64 c] 66) := ⟨_, rfl⟩
    have c0 : W3.cell? ⟨w2.heap.size, 0, none⟩ = some (.int .i64 a) := by rw [hW3]; simp
    have c1 : W3.cell? ⟨w2.heap.size, 1, none⟩ = some (.int .i64 b) := by rw [hW3]; simp
    have c2 : W3.cell? ⟨w2.heap.size, 2, none⟩ = some (.int .i64 c) := by rw [hW3]; simp
    have HB3 : Hid (Below w.heap.size w W3) := Lib.hid (by rw [hW3]; exact HB2.out.alloc HB2.out.size _)
    have HW := Lib.hid hW3
    clear hW3
    go_wp2_with fail
    rw [← HW.out]
    clear HW
    go_quiet (fail)
    rename Nat => q1
    go_wp2_with fail
    exact bodyPost_ret (v := .tuple #[.int .i64 a, .int .i64 b, .int .i64 c, .int .i64 0]) (by simp [results, Tryd.results16, go_sem]) rfl ⟨rfl, bel_drewNDt HB3.out _⟩
end Go.Proofs.YtnadgldgdmppkaaDoor
