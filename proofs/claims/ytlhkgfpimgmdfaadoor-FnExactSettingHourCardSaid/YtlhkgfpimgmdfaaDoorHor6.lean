/-
  When a star sets and rises: the contracts of l06Setting, SettingHour, RisingOf, SettingOf (package spec), of horizonAngle, RisingOf, SettingOf (package impl).
-/
import Derived.Test.YtlhkgfpimgmdfaaDoorHor5
import Derived.Test.YtlhkgfpimgmdfaaDoorNrm
import Derived.Test.YtlhkgfpimgmdfaaDoorAngP
import Derived.Deep.LoopGhost
import Derived.Deep.Cut
namespace Go.Proofs.YtlhkgfpimgmdfaaDoor
open Go.RowKit
set_option linter.unusedVariables false

theorem fld2 (x y z : Int) (w : World) : (Instr.field 26 (.agg #[.int .i64 x, .int .i64 y, .int .i64 z]) 2).run Tryd.prog w = .ok (.int .i64 z) w := by kernel_rfl
theorem ris_iff (phi d : Int) : risB phi d = true ↔ 0 < hoR phi (0 - 0) d ∧ ¬ 0 < hoR phi (0 - 180000) d := by
  unfold risB upB
  simp
def stgV (phi d : Int) : Value := if risB phi d = true then .tuple #[.int .i64 (setN phi d : Nat), .bool true] else .tuple #[.int .i64 0, .bool false]
set_option maxRecDepth 100000 in
set_option maxHeartbeats 2000000 in
theorem l06Setting_any (phi d : Int) (p0 : -90000 ≤ phi) (p1 : phi ≤ 90000) (d0 : -90000 ≤ d) (d1 : d ≤ 90000) (w : World) :
    Calls Tryd.prog 38 #[.int .i64 phi, .int .i64 d] w fun e w' => e = .returned (stgV phi d) ∧ Below w.heap.size w w' := by
  unfold stgV
  have V := Lib.hid (fun m m0 m1 w => l06Vector_any phi m 0 d p0 p1 m0 m1 (by omega) (by omega) d0 d1 w)
  have V0 := Lib.hid (fun w => l06Vector_any phi 0 0 d p0 p1 (by omega) (by omega) (by omega) (by omega) d0 d1 w)
  have V1 := Lib.hid (fun w => l06Vector_any phi 180000 0 d p0 p1 (by omega) (by omega) (by omega) (by omega) d0 d1 w)
  have CI : Hid (∀ m : Nat, m < 180000 → (hoR phi (0 - (m : Int)) d ≤ 0 ↔ setN phi d ≤ m)) := Lib.hid (fun m hm => by rw [show (0 : Int) - (m : Int) = -(m : Int) by omega]; exact setN_iff phi d p0 p1 d0 d1 m hm)
  have FD := fld2
  have hc := setN_le phi d
  have RI := ris_iff phi d
  generalize setN phi d = c at *
  generalize hoP phi (0 - 0) d = P0 at *
  generalize hoQ phi (0 - 0) d = Q0 at *
  generalize hoR phi (0 - 0) d = R0 at *
  generalize hoP phi (0 - 180000) d = P1 at *
  generalize hoQ phi (0 - 180000) d = Q1 at *
  generalize hoR phi (0 - 180000) d = R1 at *
  by_cases g0 : R0 ≤ 0
  · rw [if_neg (by rw [RI]; omega)]
    clear RI
    go_enter Tryd.func38, Tryd.ntmps38
    go_wp2_with fail
    refine (V0.out _).mono ?_
    rintro e w1 ⟨rfl, hb⟩
    have hsw1 := hb.size
    try simp at hsw1
    obtain ⟨hcw1, hfw1⟩ := bcell hb
    have HBw1 : Hid (Below w.heap.size w w1) := by
      apply Lib.hid
      refine Below.trans ?_ (hb.mono ?_)
      · repeat (first | exact Below.refl _ _ | refine Below.setCell ?_ (by first | (simp; done) | omega | (simp; omega)) _ | refine Below.alloc ?_ (by first | (simp; done) | omega | (simp; omega)) _)
      · first | (simp; done) | omega | (simp; omega)
    clear hb
    go_wp2_with fail
    refine bodyPost_ret (v := .tuple #[.int .i64 0, .bool false]) (by first | (simp [results, Tryd.results38, go_sem]; done) | (simp [results, Tryd.results38, go_sem, *]; done)) rfl ⟨rfl, ?_⟩
    repeat (first | exact Below.refl _ _ | exact HBw1.out | refine Below.setCell ?_ (by first | (simp; done) | omega | (simp; omega)) _ | refine Below.alloc ?_ (by first | (simp; done) | omega | (simp; omega)) _ | refine bel_drew ?_)
  · by_cases g1 : 0 < R1
    · rw [if_neg (by rw [RI]; omega)]
      clear RI
      go_enter Tryd.func38, Tryd.ntmps38
      go_wp2_with fail
      refine (V0.out _).mono ?_
      rintro e w1 ⟨rfl, hb⟩
      have hsw1 := hb.size
      try simp at hsw1
      obtain ⟨hcw1, hfw1⟩ := bcell hb
      have HBw1 : Hid (Below w.heap.size w w1) := by
        apply Lib.hid
        refine Below.trans ?_ (hb.mono ?_)
        · repeat (first | exact Below.refl _ _ | refine Below.setCell ?_ (by first | (simp; done) | omega | (simp; omega)) _ | refine Below.alloc ?_ (by first | (simp; done) | omega | (simp; omega)) _)
        · first | (simp; done) | omega | (simp; omega)
      clear hb
      go_wp2_with fail
      refine (V1.out _).mono ?_
      rintro e w2 ⟨rfl, hb⟩
      have hsw2 := hb.size
      try simp at hsw2
      obtain ⟨hcw2, hfw2⟩ := bcell hb
      have HBw2 : Hid (Below w.heap.size w w2) := by
        apply Lib.hid
        refine Below.trans ?_ (hb.mono ?_)
        · repeat (first | exact Below.refl _ _ | exact HBw1.out | refine Below.setCell ?_ (by first | (simp; done) | omega | (simp; omega)) _ | refine Below.alloc ?_ (by first | (simp; done) | omega | (simp; omega)) _)
        · first | (simp; done) | omega | (simp; omega)
      clear hb
      first | (have gsw2w1 : w1.heap.size < w2.heap.size := by omega) | skip
      go_wp2_with fail
      refine bodyPost_ret (v := .tuple #[.int .i64 0, .bool false]) (by first | (simp [results, Tryd.results38, go_sem]; done) | (simp [results, Tryd.results38, go_sem, *]; done)) rfl ⟨rfl, ?_⟩
      repeat (first | exact Below.refl _ _ | exact HBw2.out | refine Below.setCell ?_ (by first | (simp; done) | omega | (simp; omega)) _ | refine Below.alloc ?_ (by first | (simp; done) | omega | (simp; omega)) _ | refine bel_drew ?_)
    · rw [if_pos (by rw [RI]; omega)]
      clear RI
      go_enter Tryd.func38, Tryd.ntmps38
      go_wp2_with fail
      refine (V0.out _).mono ?_
      rintro e w1 ⟨rfl, hb⟩
      have hsw1 := hb.size
      try simp at hsw1
      obtain ⟨hcw1, hfw1⟩ := bcell hb
      have HBw1 : Hid (Below w.heap.size w w1) := by
        apply Lib.hid
        refine Below.trans ?_ (hb.mono ?_)
        · repeat (first | exact Below.refl _ _ | refine Below.setCell ?_ (by first | (simp; done) | omega | (simp; omega)) _ | refine Below.alloc ?_ (by first | (simp; done) | omega | (simp; omega)) _)
        · first | (simp; done) | omega | (simp; omega)
      clear hb
      go_wp2_with fail
      refine (V1.out _).mono ?_
      rintro e w2 ⟨rfl, hb⟩
      have hsw2 := hb.size
      try simp at hsw2
      obtain ⟨hcw2, hfw2⟩ := bcell hb
      have HBw2 : Hid (Below w.heap.size w w2) := by
        apply Lib.hid
        refine Below.trans ?_ (hb.mono ?_)
        · repeat (first | exact Below.refl _ _ | exact HBw1.out | refine Below.setCell ?_ (by first | (simp; done) | omega | (simp; omega)) _ | refine Below.alloc ?_ (by first | (simp; done) | omega | (simp; omega)) _)
        · first | (simp; done) | omega | (simp; omega)
      clear hb
      first | (have gsw2w1 : w1.heap.size < w2.heap.size := by omega) | skip
      go_wp2_with fail
      go_loopg [6, 7] 180000 (fun kx s6 s7 wr => ∃ (lo hi : Nat), s6 = .int .i64 lo ∧ s7 = .int .i64 hi ∧ lo ≤ c ∧ c ≤ hi ∧ hi ≤ 180000 ∧ (hi - lo) ≤ kx ∧ Hid (Below w.heap.size w wr))
      case atStart => exact ⟨0, 180000, rfl, rfl, Nat.zero_le _, hc, Nat.le_refl _, by omega, HBw2⟩
      case round =>
        obtain ⟨lo, hi, rfl, rfl, hlc, hch, hin, hg, B⟩ := hrel
        by_cases hlt : lo < hi
        · obtain ⟨mm, hmm⟩ : ∃ mm : Nat, mm = (lo + hi) / 2 := ⟨_, rfl⟩
          have em : ((lo : Int) + (hi : Int)) / 2 = (mm : Int) := by omega
          have hml : mm < 180000 := by omega
          have EM := Lib.hid em
          have hlt' : (lo : Int) < (hi : Int) := by omega
          have CM := CI.out mm hml
          have S := Lib.hid (fun w => V.out (mm : Int) (by omega) (by omega) w)
          generalize hoP phi (0 - (mm : Int)) d = P at *
          generalize hoQ phi (0 - (mm : Int)) d = Q at *
          generalize hoR phi (0 - (mm : Int)) d = R at *
          clear em
          by_cases hp : R ≤ 0
          · have hcm := CM.1 hp
            clear CM
            go_wp2_with fail
            rw [EM.out]
            refine (S.out _).mono ?_
            rintro e w3 ⟨rfl, hb⟩
            have HB3 := Lib.hid (B.out.trans (hb.mono B.out.size))
            clear hb
            go_wp2_with fail
            go_roundg (mm - lo)
            case measure => omega
            case rel => exact ⟨lo, mm, rfl, congrArg (Value.int .i64) (by omega), hlc, hcm, by omega, Nat.le_refl _, HB3⟩
          · have hcm : mm < c := by have := mt CM.2 hp; omega
            clear CM
            go_wp2_with fail
            rw [EM.out]
            refine (S.out _).mono ?_
            rintro e w3 ⟨rfl, hb⟩
            have HB3 := Lib.hid (B.out.trans (hb.mono B.out.size))
            clear hb
            go_wp2_with fail
            go_roundg (hi - (mm + 1))
            case measure => omega
            case rel => exact ⟨mm + 1, hi, congrArg (Value.int .i64) (by omega), rfl, by omega, hch, hin, Nat.le_refl _, HB3⟩
        · obtain rfl : c = lo := by omega
          obtain rfl : c = hi := by omega
          go_wp2_with fail
          refine bodyPost_ret (v := .tuple #[.int .i64 (c : Nat), .bool true]) (by first | (simp [results, Tryd.results38, go_sem]; done) | (simp [results, Tryd.results38, go_sem, *]; done)) rfl ⟨rfl, ?_⟩
          repeat (first | exact Below.refl _ _ | exact B.out | refine Below.setCell ?_ (by first | (simp; done) | omega | (simp; omega)) _ | refine Below.alloc ?_ (by first | (simp; done) | omega | (simp; omega)) _ | refine bel_drew ?_)

set_option maxHeartbeats 1000000 in
theorem specSet_any (s : ByteArray) (a b d : Int) (fb : fits b) (fd : fits d) (w : World) :
    Calls Tryd.prog 18 #[.agg #[.string s, .int .i64 a, .int .i64 b], .int .i64 d] w fun e w' => e = .returned (setV s a b d) ∧ Below w.heap.size w w' := by
  unfold setV
  have CK := Lib.hid (fun (w : World) g c0 c1 c2 => l06Ask_at g 0 s a b 0 0 d w c0 c1 c2)
  by_cases h : askI s a b 0 0 d = 0
  · rw [if_pos h]
    obtain ⟨hs, h0, h1, h2, h3, h4, h5⟩ := (ask_0 _ _ _ _ _ _).1 h
    rw [h] at CK
    have V := Lib.hid (fun w => l06Setting_any b d h2.1 h2.2 h3.1 h3.2 w)
    unfold stgV at V
    clear h hs h0 h1 h2 h3 h4 h5
    generalize setN b d = c at *
    cases hr : risB b d with
    | false =>
      simp only [hr, Bool.false_eq_true, if_false] at V ⊢
      go_enter Tryd.func18, Tryd.ntmps18
      go_wp2_with fail
      refine (CK.out _ _ (by simp) (by simp) (by simp)).mono ?_
      rintro e w' ⟨rfl, rfl⟩
      go_wp2_with fail
      refine (V.out _).mono ?_
      rintro e w1 ⟨rfl, hb⟩
      have hsw1 := hb.size
      try simp at hsw1
      obtain ⟨hcw1, hfw1⟩ := bcell hb
      have HBw1 : Hid (Below w.heap.size w w1) := by
        apply Lib.hid
        refine Below.trans ?_ (hb.mono ?_)
        · repeat (first | exact Below.refl _ _ | refine Below.setCell ?_ (by first | (simp; done) | omega | (simp; omega)) _ | refine Below.alloc ?_ (by first | (simp; done) | omega | (simp; omega)) _)
        · first | (simp; done) | omega | (simp; omega)
      have hzw1 : w.heap.size < w1.heap.size := by have := hb.size; (try simp at this); omega
      clear hb
      go_wp2_with fail
      refine bodyPost_ret (v := .tuple #[.int .i64 0, .int .i64 6]) (by first | (simp [results, Tryd.results18, go_sem]; done) | (simp [results, Tryd.results18, go_sem, *]; done)) rfl ⟨rfl, ?_⟩
      repeat (first | exact Below.refl _ _ | exact HBw1.out | refine Below.setCell ?_ (by first | (simp; done) | omega | (simp; omega)) _ | refine Below.alloc ?_ (by first | (simp; done) | omega | (simp; omega)) _ | refine bel_drew ?_)
    | true =>
      simp only [hr, if_true] at V ⊢
      go_enter Tryd.func18, Tryd.ntmps18
      go_wp2_with fail
      refine (CK.out _ _ (by simp) (by simp) (by simp)).mono ?_
      rintro e w' ⟨rfl, rfl⟩
      go_wp2_with fail
      refine (V.out _).mono ?_
      rintro e w1 ⟨rfl, hb⟩
      have hsw1 := hb.size
      try simp at hsw1
      obtain ⟨hcw1, hfw1⟩ := bcell hb
      have HBw1 : Hid (Below w.heap.size w w1) := by
        apply Lib.hid
        refine Below.trans ?_ (hb.mono ?_)
        · repeat (first | exact Below.refl _ _ | refine Below.setCell ?_ (by first | (simp; done) | omega | (simp; omega)) _ | refine Below.alloc ?_ (by first | (simp; done) | omega | (simp; omega)) _)
        · first | (simp; done) | omega | (simp; omega)
      have hzw1 : w.heap.size < w1.heap.size := by have := hb.size; (try simp at this); omega
      clear hb
      go_wp2_with fail
      refine bodyPost_ret (v := .tuple #[.int .i64 (c : Nat), .int .i64 0]) (by first | (simp [results, Tryd.results18, go_sem]; done) | (simp [results, Tryd.results18, go_sem, *]; done)) rfl ⟨rfl, ?_⟩
      repeat (first | exact Below.refl _ _ | exact HBw1.out | refine Below.setCell ?_ (by first | (simp; done) | omega | (simp; omega)) _ | refine Below.alloc ?_ (by first | (simp; done) | omega | (simp; omega)) _ | refine bel_drew ?_)
  · rw [if_neg h]
    generalize askI s a b 0 0 d = k at *
    have hk : (k == 0) = false := by simpa using h
    clear h
    go_enter Tryd.func18, Tryd.ntmps18
    go_wp2_with fail
    refine (CK.out _ _ (by simp) (by simp) (by simp)).mono ?_
    rintro e w' ⟨rfl, rfl⟩
    go_wp2_with fail
    refine bodyPost_ret (v := .tuple #[.int .i64 0, .int .i64 k]) (by first | (simp [results, Tryd.results18, go_sem]; done) | (simp [results, Tryd.results18, go_sem, *]; done)) rfl ⟨rfl, ?_⟩
    repeat (first | exact Below.refl _ _ | refine Below.setCell ?_ (by first | (simp; done) | omega | (simp; omega)) _ | refine Below.alloc ?_ (by first | (simp; done) | omega | (simp; omega)) _ | refine bel_drew ?_)

/-- What RisingOf returns. -/
def risV (s : ByteArray) (a b r d : Int) : Value := if askI s a b 0 r d = 0 then (if risB b d = true then .tuple #[.int .i64 (nrm (r - (setN b d : Nat))), .int .i64 0] else .tuple #[.int .i64 0, .int .i64 6]) else .tuple #[.int .i64 0, .int .i64 (askI s a b 0 r d)]
theorem risV_form (s : ByteArray) (a b r d : Int) : ∃ x c : Int, risV s a b r d = .tuple #[.int .i64 x, .int .i64 c] := by
  unfold risV
  split
  · split <;> exact ⟨_, _, rfl⟩
  · exact ⟨_, _, rfl⟩
set_option maxHeartbeats 1000000 in
theorem specRis_any (s : ByteArray) (a b r d : Int) (fb : fits b) (fr : fits r) (fd : fits d) (w : World) :
    Calls Tryd.prog 20 #[.agg #[.string s, .int .i64 a, .int .i64 b], .int .i64 r, .int .i64 d] w fun e w' => e = .returned (risV s a b r d) ∧ Below w.heap.size w w' := by
  unfold risV
  have CK := Lib.hid (fun (w : World) g c0 c1 c2 => l06Ask_at g 0 s a b 0 r d w c0 c1 c2)
  by_cases h : askI s a b 0 r d = 0
  · rw [if_pos h]
    obtain ⟨hs, h0, h1, h2, h3, h4, h5⟩ := (ask_0 _ _ _ _ _ _).1 h
    rw [h] at CK
    have V := Lib.hid (fun w => l06Setting_any b d h2.1 h2.2 h3.1 h3.2 w)
    unfold stgV at V
    have hc := setN_le b d
    have N := Lib.hid (fun w => l02Normal_any (r - (setN b d : Nat)) w (by omega) (by omega))
    generalize nrm (r - (setN b d : Nat)) = Z at *
    generalize setN b d = c at *
    clear h hs h0 h2 h3 h4 h5
    cases hr : risB b d with
    | false =>
      simp only [hr, Bool.false_eq_true, if_false] at V ⊢
      go_enter Tryd.func20, Tryd.ntmps20
      go_wp2_with fail
      refine (CK.out _ _ (by simp) (by simp) (by simp)).mono ?_
      rintro e w' ⟨rfl, rfl⟩
      go_wp2_with fail
      refine (V.out _).mono ?_
      rintro e w1 ⟨rfl, hb⟩
      have hsw1 := hb.size
      try simp at hsw1
      obtain ⟨hcw1, hfw1⟩ := bcell hb
      have HBw1 : Hid (Below w.heap.size w w1) := by
        apply Lib.hid
        refine Below.trans ?_ (hb.mono ?_)
        · repeat (first | exact Below.refl _ _ | refine Below.setCell ?_ (by first | (simp; done) | omega | (simp; omega)) _ | refine Below.alloc ?_ (by first | (simp; done) | omega | (simp; omega)) _)
        · first | (simp; done) | omega | (simp; omega)
      have hzw1 : w.heap.size < w1.heap.size := by have := hb.size; (try simp at this); omega
      clear hb
      go_wp2_with fail
      refine bodyPost_ret (v := .tuple #[.int .i64 0, .int .i64 6]) (by first | (simp [results, Tryd.results20, go_sem]; done) | (simp [results, Tryd.results20, go_sem, *]; done)) rfl ⟨rfl, ?_⟩
      repeat (first | exact Below.refl _ _ | exact HBw1.out | refine Below.setCell ?_ (by first | (simp; done) | omega | (simp; omega)) _ | refine Below.alloc ?_ (by first | (simp; done) | omega | (simp; omega)) _ | refine bel_drew ?_)
    | true =>
      simp only [hr, if_true] at V ⊢
      go_enter Tryd.func20, Tryd.ntmps20
      go_wp2_with fail
      refine (CK.out _ _ (by simp) (by simp) (by simp)).mono ?_
      rintro e w' ⟨rfl, rfl⟩
      go_wp2_with fail
      refine (V.out _).mono ?_
      rintro e w1 ⟨rfl, hb⟩
      have hsw1 := hb.size
      try simp at hsw1
      obtain ⟨hcw1, hfw1⟩ := bcell hb
      have HBw1 : Hid (Below w.heap.size w w1) := by
        apply Lib.hid
        refine Below.trans ?_ (hb.mono ?_)
        · repeat (first | exact Below.refl _ _ | refine Below.setCell ?_ (by first | (simp; done) | omega | (simp; omega)) _ | refine Below.alloc ?_ (by first | (simp; done) | omega | (simp; omega)) _)
        · first | (simp; done) | omega | (simp; omega)
      have hzw1 : w.heap.size < w1.heap.size := by have := hb.size; (try simp at this); omega
      clear hb
      go_wp2_with fail
      refine (N.out _).mono ?_
      rintro e w' ⟨rfl, rfl⟩
      go_wp2_with fail
      refine bodyPost_ret (v := .tuple #[.int .i64 Z, .int .i64 0]) (by first | (simp [results, Tryd.results20, go_sem]; done) | (simp [results, Tryd.results20, go_sem, *]; done)) rfl ⟨rfl, ?_⟩
      repeat (first | exact Below.refl _ _ | exact HBw1.out | refine Below.setCell ?_ (by first | (simp; done) | omega | (simp; omega)) _ | refine Below.alloc ?_ (by first | (simp; done) | omega | (simp; omega)) _ | refine bel_drew ?_)
  · rw [if_neg h]
    generalize askI s a b 0 r d = k at *
    have hk : (k == 0) = false := by simpa using h
    clear h
    go_enter Tryd.func20, Tryd.ntmps20
    go_wp2_with fail
    refine (CK.out _ _ (by simp) (by simp) (by simp)).mono ?_
    rintro e w' ⟨rfl, rfl⟩
    go_wp2_with fail
    refine bodyPost_ret (v := .tuple #[.int .i64 0, .int .i64 k]) (by first | (simp [results, Tryd.results20, go_sem]; done) | (simp [results, Tryd.results20, go_sem, *]; done)) rfl ⟨rfl, ?_⟩
    repeat (first | exact Below.refl _ _ | refine Below.setCell ?_ (by first | (simp; done) | omega | (simp; omega)) _ | refine Below.alloc ?_ (by first | (simp; done) | omega | (simp; omega)) _ | refine bel_drew ?_)

set_option maxRecDepth 100000 in
set_option maxHeartbeats 1000000 in
theorem hoAng_ris (s : ByteArray) (a b r d : Int) (hmax : s.size ≤ maxLen) (fb : fits b) (fr : fits r) (fd : fits d) (w : World) (hs : SinesOK w) :
    Calls Tryd.prog 43 #[.agg #[.string s, .int .i64 a, .int .i64 b], .int .i64 r, .int .i64 d, .int .i64 (-1)] w fun e w' => e = .returned (risV s a b r d) ∧ Below w.heap.size w w' := by
  unfold risV
  have CK := Lib.hid (fun w => checkStar_any s a b r d hmax w)
  have V := Lib.hid (fun w hs => implSet_any s a b d hmax w hs)
  have E := Lib.hid hs
  clear hs hmax
  unfold setV at V
  by_cases h : askI s a b 0 r d = 0
  · rw [if_pos h]
    obtain ⟨hs, h0, h1, h2, h3, h4, h5⟩ := (ask_0 _ _ _ _ _ _).1 h
    have h' : askI s a b 0 0 d = 0 := (ask_0 _ _ _ _ _ _).2 ⟨hs, h0, ⟨by omega, by omega⟩, h2, h3, h4, h5⟩
    rw [h] at CK
    simp only [if_pos h'] at V
    have hc := setN_le b d
    have N := Lib.hid (fun w => implNrm_any (r - (setN b d : Nat)) w (by omega) (by omega))
    generalize nrm (r - (setN b d : Nat)) = Z at *
    generalize setN b d = c at *
    clear h h' hs h0 h2 h3 h4 h5
    cases hr : risB b d with
    | false =>
      simp only [hr, Bool.false_eq_true, if_false] at V ⊢
      go_enter Tryd.func43, Tryd.ntmps43
      go_wp2_with fail
      refine (CK.out _).mono ?_
      rintro e w1 ⟨rfl, hb⟩
      have hsw1 := hb.size
      try simp at hsw1
      obtain ⟨hcw1, hfw1⟩ := bcell hb
      have HBw1 : Hid (Below w.heap.size w w1) := by
        apply Lib.hid
        refine Below.trans ?_ (hb.mono ?_)
        · repeat (first | exact Below.refl _ _ | refine Below.setCell ?_ (by first | (simp; done) | omega | (simp; omega)) _ | refine Below.alloc ?_ (by first | (simp; done) | omega | (simp; omega)) _)
        · first | (simp; done) | omega | (simp; omega)
      have hzw1 : w.heap.size < w1.heap.size := by have := hb.size; (try simp at this); omega
      clear hb
      go_wp2_with fail
      refine (V.out _ (E.out.below (by repeat (first | exact Below.refl _ _ | exact HBw1.out | refine Below.setCell ?_ (by first | (simp; done) | omega | (simp; omega)) _ | refine Below.alloc ?_ (by first | (simp; done) | omega | (simp; omega)) _ | refine bel_drew ?_)))).mono ?_
      rintro e w2 ⟨rfl, hb⟩
      have hsw2 := hb.size
      try simp at hsw2
      obtain ⟨hcw2, hfw2⟩ := bcell hb
      have HBw2 : Hid (Below w.heap.size w w2) := by
        apply Lib.hid
        refine Below.trans ?_ (hb.mono ?_)
        · repeat (first | exact Below.refl _ _ | exact HBw1.out | refine Below.setCell ?_ (by first | (simp; done) | omega | (simp; omega)) _ | refine Below.alloc ?_ (by first | (simp; done) | omega | (simp; omega)) _)
        · first | (simp; done) | omega | (simp; omega)
      have hzw2 : w.heap.size < w2.heap.size := by have := hb.size; (try simp at this); omega
      clear hb
      first | (have gsw2w1 : w1.heap.size < w2.heap.size := by omega) | skip
      go_wp2_with fail
      refine bodyPost_ret (v := .tuple #[.int .i64 0, .int .i64 6]) (by first | (simp [results, Tryd.results43, go_sem]; done) | (simp [results, Tryd.results43, go_sem, *]; done)) rfl ⟨rfl, ?_⟩
      repeat (first | exact Below.refl _ _ | exact HBw2.out | refine Below.setCell ?_ (by first | (simp; done) | omega | (simp; omega)) _ | refine Below.alloc ?_ (by first | (simp; done) | omega | (simp; omega)) _ | refine bel_drew ?_)
    | true =>
      simp only [hr, if_true] at V ⊢
      have es : r + -1 * (c : Int) = r - (c : Int) := by omega
      go_enter Tryd.func43, Tryd.ntmps43
      go_wp2_with fail
      refine (CK.out _).mono ?_
      rintro e w1 ⟨rfl, hb⟩
      have hsw1 := hb.size
      try simp at hsw1
      obtain ⟨hcw1, hfw1⟩ := bcell hb
      have HBw1 : Hid (Below w.heap.size w w1) := by
        apply Lib.hid
        refine Below.trans ?_ (hb.mono ?_)
        · repeat (first | exact Below.refl _ _ | refine Below.setCell ?_ (by first | (simp; done) | omega | (simp; omega)) _ | refine Below.alloc ?_ (by first | (simp; done) | omega | (simp; omega)) _)
        · first | (simp; done) | omega | (simp; omega)
      have hzw1 : w.heap.size < w1.heap.size := by have := hb.size; (try simp at this); omega
      clear hb
      go_wp2_with fail
      refine (V.out _ (E.out.below (by repeat (first | exact Below.refl _ _ | exact HBw1.out | refine Below.setCell ?_ (by first | (simp; done) | omega | (simp; omega)) _ | refine Below.alloc ?_ (by first | (simp; done) | omega | (simp; omega)) _ | refine bel_drew ?_)))).mono ?_
      rintro e w2 ⟨rfl, hb⟩
      have hsw2 := hb.size
      try simp at hsw2
      obtain ⟨hcw2, hfw2⟩ := bcell hb
      have HBw2 : Hid (Below w.heap.size w w2) := by
        apply Lib.hid
        refine Below.trans ?_ (hb.mono ?_)
        · repeat (first | exact Below.refl _ _ | exact HBw1.out | refine Below.setCell ?_ (by first | (simp; done) | omega | (simp; omega)) _ | refine Below.alloc ?_ (by first | (simp; done) | omega | (simp; omega)) _)
        · first | (simp; done) | omega | (simp; omega)
      have hzw2 : w.heap.size < w2.heap.size := by have := hb.size; (try simp at this); omega
      clear hb
      first | (have gsw2w1 : w1.heap.size < w2.heap.size := by omega) | skip
      go_wp2_with fail
      try rw [es]
      refine (N.out _).mono ?_
      rintro e w' ⟨rfl, rfl⟩
      go_wp2_with fail
      refine bodyPost_ret (v := .tuple #[.int .i64 Z, .int .i64 0]) (by first | (simp [results, Tryd.results43, go_sem]; done) | (simp [results, Tryd.results43, go_sem, *]; done)) rfl ⟨rfl, ?_⟩
      repeat (first | exact Below.refl _ _ | exact HBw2.out | refine Below.setCell ?_ (by first | (simp; done) | omega | (simp; omega)) _ | refine Below.alloc ?_ (by first | (simp; done) | omega | (simp; omega)) _ | refine bel_drew ?_)
  · rw [if_neg h]
    generalize askI s a b 0 r d = k at *
    have hk : (k == 0) = false := by simpa using h
    clear h V
    go_enter Tryd.func43, Tryd.ntmps43
    go_wp2_with fail
    refine (CK.out _).mono ?_
    rintro e w1 ⟨rfl, hb⟩
    have hsw1 := hb.size
    try simp at hsw1
    obtain ⟨hcw1, hfw1⟩ := bcell hb
    have HBw1 : Hid (Below w.heap.size w w1) := by
      apply Lib.hid
      refine Below.trans ?_ (hb.mono ?_)
      · repeat (first | exact Below.refl _ _ | refine Below.setCell ?_ (by first | (simp; done) | omega | (simp; omega)) _ | refine Below.alloc ?_ (by first | (simp; done) | omega | (simp; omega)) _)
      · first | (simp; done) | omega | (simp; omega)
    have hzw1 : w.heap.size < w1.heap.size := by have := hb.size; (try simp at this); omega
    clear hb
    go_wp2_with fail
    refine bodyPost_ret (v := .tuple #[.int .i64 0, .int .i64 k]) (by first | (simp [results, Tryd.results43, go_sem]; done) | (simp [results, Tryd.results43, go_sem, *]; done)) rfl ⟨rfl, ?_⟩
    repeat (first | exact Below.refl _ _ | exact HBw1.out | refine Below.setCell ?_ (by first | (simp; done) | omega | (simp; omega)) _ | refine Below.alloc ?_ (by first | (simp; done) | omega | (simp; omega)) _ | refine bel_drew ?_)
set_option maxHeartbeats 1000000 in
theorem implRis_any (s : ByteArray) (a b r d : Int) (hmax : s.size ≤ maxLen) (fb : fits b) (fr : fits r) (fd : fits d) (w : World) (hs : SinesOK w) :
    Calls Tryd.prog 21 #[.agg #[.string s, .int .i64 a, .int .i64 b], .int .i64 r, .int .i64 d] w fun e w' => e = .returned (risV s a b r d) ∧ Below w.heap.size w w' := by
  have H := Lib.hid (fun w hs => hoAng_ris s a b r d hmax fb fr fd w hs)
  have E := Lib.hid hs
  clear hs hmax
  obtain ⟨x, c, hz⟩ := risV_form s a b r d
  rw [hz] at H ⊢
  clear hz
  go_enter Tryd.func21, Tryd.ntmps21
  go_wp2_with fail
  refine (H.out _ (E.out.below (by repeat (first | exact Below.refl _ _ | refine Below.setCell ?_ (by first | (simp; done) | omega | (simp; omega)) _ | refine Below.alloc ?_ (by first | (simp; done) | omega | (simp; omega)) _ | refine bel_drew ?_)))).mono ?_
  rintro e w1 ⟨rfl, hb⟩
  have hsw1 := hb.size
  try simp at hsw1
  obtain ⟨hcw1, hfw1⟩ := bcell hb
  have HBw1 : Hid (Below w.heap.size w w1) := by
    apply Lib.hid
    refine Below.trans ?_ (hb.mono ?_)
    · repeat (first | exact Below.refl _ _ | refine Below.setCell ?_ (by first | (simp; done) | omega | (simp; omega)) _ | refine Below.alloc ?_ (by first | (simp; done) | omega | (simp; omega)) _)
    · first | (simp; done) | omega | (simp; omega)
  have hzw1 : w.heap.size < w1.heap.size := by have := hb.size; (try simp at this); omega
  clear hb
  go_wp2_with fail
  refine bodyPost_ret (v := .tuple #[.int .i64 x, .int .i64 c]) (by first | (simp [results, Tryd.results21, go_sem]; done) | (simp [results, Tryd.results21, go_sem, *]; done)) rfl ⟨rfl, ?_⟩
  repeat (first | exact Below.refl _ _ | exact HBw1.out | refine Below.setCell ?_ (by first | (simp; done) | omega | (simp; omega)) _ | refine Below.alloc ?_ (by first | (simp; done) | omega | (simp; omega)) _ | refine bel_drew ?_)

/-- What SettingOf returns. -/
def stoV (s : ByteArray) (a b r d : Int) : Value := if askI s a b 0 r d = 0 then (if risB b d = true then .tuple #[.int .i64 (nrm (r + (setN b d : Nat))), .int .i64 0] else .tuple #[.int .i64 0, .int .i64 6]) else .tuple #[.int .i64 0, .int .i64 (askI s a b 0 r d)]
theorem stoV_form (s : ByteArray) (a b r d : Int) : ∃ x c : Int, stoV s a b r d = .tuple #[.int .i64 x, .int .i64 c] := by
  unfold stoV
  split
  · split <;> exact ⟨_, _, rfl⟩
  · exact ⟨_, _, rfl⟩
set_option maxHeartbeats 1000000 in
theorem specSto_any (s : ByteArray) (a b r d : Int) (fb : fits b) (fr : fits r) (fd : fits d) (w : World) :
    Calls Tryd.prog 22 #[.agg #[.string s, .int .i64 a, .int .i64 b], .int .i64 r, .int .i64 d] w fun e w' => e = .returned (stoV s a b r d) ∧ Below w.heap.size w w' := by
  unfold stoV
  have CK := Lib.hid (fun (w : World) g c0 c1 c2 => l06Ask_at g 0 s a b 0 r d w c0 c1 c2)
  by_cases h : askI s a b 0 r d = 0
  · rw [if_pos h]
    obtain ⟨hs, h0, h1, h2, h3, h4, h5⟩ := (ask_0 _ _ _ _ _ _).1 h
    rw [h] at CK
    have V := Lib.hid (fun w => l06Setting_any b d h2.1 h2.2 h3.1 h3.2 w)
    unfold stgV at V
    have hc := setN_le b d
    have N := Lib.hid (fun w => l02Normal_any (r + (setN b d : Nat)) w (by omega) (by omega))
    generalize nrm (r + (setN b d : Nat)) = Z at *
    generalize setN b d = c at *
    clear h hs h0 h2 h3 h4 h5
    cases hr : risB b d with
    | false =>
      simp only [hr, Bool.false_eq_true, if_false] at V ⊢
      go_enter Tryd.func22, Tryd.ntmps22
      go_wp2_with fail
      refine (CK.out _ _ (by simp) (by simp) (by simp)).mono ?_
      rintro e w' ⟨rfl, rfl⟩
      go_wp2_with fail
      refine (V.out _).mono ?_
      rintro e w1 ⟨rfl, hb⟩
      have hsw1 := hb.size
      try simp at hsw1
      obtain ⟨hcw1, hfw1⟩ := bcell hb
      have HBw1 : Hid (Below w.heap.size w w1) := by
        apply Lib.hid
        refine Below.trans ?_ (hb.mono ?_)
        · repeat (first | exact Below.refl _ _ | refine Below.setCell ?_ (by first | (simp; done) | omega | (simp; omega)) _ | refine Below.alloc ?_ (by first | (simp; done) | omega | (simp; omega)) _)
        · first | (simp; done) | omega | (simp; omega)
      have hzw1 : w.heap.size < w1.heap.size := by have := hb.size; (try simp at this); omega
      clear hb
      go_wp2_with fail
      refine bodyPost_ret (v := .tuple #[.int .i64 0, .int .i64 6]) (by first | (simp [results, Tryd.results22, go_sem]; done) | (simp [results, Tryd.results22, go_sem, *]; done)) rfl ⟨rfl, ?_⟩
      repeat (first | exact Below.refl _ _ | exact HBw1.out | refine Below.setCell ?_ (by first | (simp; done) | omega | (simp; omega)) _ | refine Below.alloc ?_ (by first | (simp; done) | omega | (simp; omega)) _ | refine bel_drew ?_)
    | true =>
      simp only [hr, if_true] at V ⊢
      go_enter Tryd.func22, Tryd.ntmps22
      go_wp2_with fail
      refine (CK.out _ _ (by simp) (by simp) (by simp)).mono ?_
      rintro e w' ⟨rfl, rfl⟩
      go_wp2_with fail
      refine (V.out _).mono ?_
      rintro e w1 ⟨rfl, hb⟩
      have hsw1 := hb.size
      try simp at hsw1
      obtain ⟨hcw1, hfw1⟩ := bcell hb
      have HBw1 : Hid (Below w.heap.size w w1) := by
        apply Lib.hid
        refine Below.trans ?_ (hb.mono ?_)
        · repeat (first | exact Below.refl _ _ | refine Below.setCell ?_ (by first | (simp; done) | omega | (simp; omega)) _ | refine Below.alloc ?_ (by first | (simp; done) | omega | (simp; omega)) _)
        · first | (simp; done) | omega | (simp; omega)
      have hzw1 : w.heap.size < w1.heap.size := by have := hb.size; (try simp at this); omega
      clear hb
      go_wp2_with fail
      refine (N.out _).mono ?_
      rintro e w' ⟨rfl, rfl⟩
      go_wp2_with fail
      refine bodyPost_ret (v := .tuple #[.int .i64 Z, .int .i64 0]) (by first | (simp [results, Tryd.results22, go_sem]; done) | (simp [results, Tryd.results22, go_sem, *]; done)) rfl ⟨rfl, ?_⟩
      repeat (first | exact Below.refl _ _ | exact HBw1.out | refine Below.setCell ?_ (by first | (simp; done) | omega | (simp; omega)) _ | refine Below.alloc ?_ (by first | (simp; done) | omega | (simp; omega)) _ | refine bel_drew ?_)
  · rw [if_neg h]
    generalize askI s a b 0 r d = k at *
    have hk : (k == 0) = false := by simpa using h
    clear h
    go_enter Tryd.func22, Tryd.ntmps22
    go_wp2_with fail
    refine (CK.out _ _ (by simp) (by simp) (by simp)).mono ?_
    rintro e w' ⟨rfl, rfl⟩
    go_wp2_with fail
    refine bodyPost_ret (v := .tuple #[.int .i64 0, .int .i64 k]) (by first | (simp [results, Tryd.results22, go_sem]; done) | (simp [results, Tryd.results22, go_sem, *]; done)) rfl ⟨rfl, ?_⟩
    repeat (first | exact Below.refl _ _ | refine Below.setCell ?_ (by first | (simp; done) | omega | (simp; omega)) _ | refine Below.alloc ?_ (by first | (simp; done) | omega | (simp; omega)) _ | refine bel_drew ?_)

set_option maxRecDepth 100000 in
set_option maxHeartbeats 1000000 in
theorem hoAng_sto (s : ByteArray) (a b r d : Int) (hmax : s.size ≤ maxLen) (fb : fits b) (fr : fits r) (fd : fits d) (w : World) (hs : SinesOK w) :
    Calls Tryd.prog 43 #[.agg #[.string s, .int .i64 a, .int .i64 b], .int .i64 r, .int .i64 d, .int .i64 (1)] w fun e w' => e = .returned (stoV s a b r d) ∧ Below w.heap.size w w' := by
  unfold stoV
  have CK := Lib.hid (fun w => checkStar_any s a b r d hmax w)
  have V := Lib.hid (fun w hs => implSet_any s a b d hmax w hs)
  have E := Lib.hid hs
  clear hs hmax
  unfold setV at V
  by_cases h : askI s a b 0 r d = 0
  · rw [if_pos h]
    obtain ⟨hs, h0, h1, h2, h3, h4, h5⟩ := (ask_0 _ _ _ _ _ _).1 h
    have h' : askI s a b 0 0 d = 0 := (ask_0 _ _ _ _ _ _).2 ⟨hs, h0, ⟨by omega, by omega⟩, h2, h3, h4, h5⟩
    rw [h] at CK
    simp only [if_pos h'] at V
    have hc := setN_le b d
    have N := Lib.hid (fun w => implNrm_any (r + (setN b d : Nat)) w (by omega) (by omega))
    generalize nrm (r + (setN b d : Nat)) = Z at *
    generalize setN b d = c at *
    clear h h' hs h0 h2 h3 h4 h5
    cases hr : risB b d with
    | false =>
      simp only [hr, Bool.false_eq_true, if_false] at V ⊢
      go_enter Tryd.func43, Tryd.ntmps43
      go_wp2_with fail
      refine (CK.out _).mono ?_
      rintro e w1 ⟨rfl, hb⟩
      have hsw1 := hb.size
      try simp at hsw1
      obtain ⟨hcw1, hfw1⟩ := bcell hb
      have HBw1 : Hid (Below w.heap.size w w1) := by
        apply Lib.hid
        refine Below.trans ?_ (hb.mono ?_)
        · repeat (first | exact Below.refl _ _ | refine Below.setCell ?_ (by first | (simp; done) | omega | (simp; omega)) _ | refine Below.alloc ?_ (by first | (simp; done) | omega | (simp; omega)) _)
        · first | (simp; done) | omega | (simp; omega)
      have hzw1 : w.heap.size < w1.heap.size := by have := hb.size; (try simp at this); omega
      clear hb
      go_wp2_with fail
      refine (V.out _ (E.out.below (by repeat (first | exact Below.refl _ _ | exact HBw1.out | refine Below.setCell ?_ (by first | (simp; done) | omega | (simp; omega)) _ | refine Below.alloc ?_ (by first | (simp; done) | omega | (simp; omega)) _ | refine bel_drew ?_)))).mono ?_
      rintro e w2 ⟨rfl, hb⟩
      have hsw2 := hb.size
      try simp at hsw2
      obtain ⟨hcw2, hfw2⟩ := bcell hb
      have HBw2 : Hid (Below w.heap.size w w2) := by
        apply Lib.hid
        refine Below.trans ?_ (hb.mono ?_)
        · repeat (first | exact Below.refl _ _ | exact HBw1.out | refine Below.setCell ?_ (by first | (simp; done) | omega | (simp; omega)) _ | refine Below.alloc ?_ (by first | (simp; done) | omega | (simp; omega)) _)
        · first | (simp; done) | omega | (simp; omega)
      have hzw2 : w.heap.size < w2.heap.size := by have := hb.size; (try simp at this); omega
      clear hb
      first | (have gsw2w1 : w1.heap.size < w2.heap.size := by omega) | skip
      go_wp2_with fail
      refine bodyPost_ret (v := .tuple #[.int .i64 0, .int .i64 6]) (by first | (simp [results, Tryd.results43, go_sem]; done) | (simp [results, Tryd.results43, go_sem, *]; done)) rfl ⟨rfl, ?_⟩
      repeat (first | exact Below.refl _ _ | exact HBw2.out | refine Below.setCell ?_ (by first | (simp; done) | omega | (simp; omega)) _ | refine Below.alloc ?_ (by first | (simp; done) | omega | (simp; omega)) _ | refine bel_drew ?_)
    | true =>
      simp only [hr, if_true] at V ⊢
      have es : r + 1 * (c : Int) = r + (c : Int) := by omega
      go_enter Tryd.func43, Tryd.ntmps43
      go_wp2_with fail
      refine (CK.out _).mono ?_
      rintro e w1 ⟨rfl, hb⟩
      have hsw1 := hb.size
      try simp at hsw1
      obtain ⟨hcw1, hfw1⟩ := bcell hb
      have HBw1 : Hid (Below w.heap.size w w1) := by
        apply Lib.hid
        refine Below.trans ?_ (hb.mono ?_)
        · repeat (first | exact Below.refl _ _ | refine Below.setCell ?_ (by first | (simp; done) | omega | (simp; omega)) _ | refine Below.alloc ?_ (by first | (simp; done) | omega | (simp; omega)) _)
        · first | (simp; done) | omega | (simp; omega)
      have hzw1 : w.heap.size < w1.heap.size := by have := hb.size; (try simp at this); omega
      clear hb
      go_wp2_with fail
      refine (V.out _ (E.out.below (by repeat (first | exact Below.refl _ _ | exact HBw1.out | refine Below.setCell ?_ (by first | (simp; done) | omega | (simp; omega)) _ | refine Below.alloc ?_ (by first | (simp; done) | omega | (simp; omega)) _ | refine bel_drew ?_)))).mono ?_
      rintro e w2 ⟨rfl, hb⟩
      have hsw2 := hb.size
      try simp at hsw2
      obtain ⟨hcw2, hfw2⟩ := bcell hb
      have HBw2 : Hid (Below w.heap.size w w2) := by
        apply Lib.hid
        refine Below.trans ?_ (hb.mono ?_)
        · repeat (first | exact Below.refl _ _ | exact HBw1.out | refine Below.setCell ?_ (by first | (simp; done) | omega | (simp; omega)) _ | refine Below.alloc ?_ (by first | (simp; done) | omega | (simp; omega)) _)
        · first | (simp; done) | omega | (simp; omega)
      have hzw2 : w.heap.size < w2.heap.size := by have := hb.size; (try simp at this); omega
      clear hb
      first | (have gsw2w1 : w1.heap.size < w2.heap.size := by omega) | skip
      go_wp2_with fail
      try rw [es]
      refine (N.out _).mono ?_
      rintro e w' ⟨rfl, rfl⟩
      go_wp2_with fail
      refine bodyPost_ret (v := .tuple #[.int .i64 Z, .int .i64 0]) (by first | (simp [results, Tryd.results43, go_sem]; done) | (simp [results, Tryd.results43, go_sem, *]; done)) rfl ⟨rfl, ?_⟩
      repeat (first | exact Below.refl _ _ | exact HBw2.out | refine Below.setCell ?_ (by first | (simp; done) | omega | (simp; omega)) _ | refine Below.alloc ?_ (by first | (simp; done) | omega | (simp; omega)) _ | refine bel_drew ?_)
  · rw [if_neg h]
    generalize askI s a b 0 r d = k at *
    have hk : (k == 0) = false := by simpa using h
    clear h V
    go_enter Tryd.func43, Tryd.ntmps43
    go_wp2_with fail
    refine (CK.out _).mono ?_
    rintro e w1 ⟨rfl, hb⟩
    have hsw1 := hb.size
    try simp at hsw1
    obtain ⟨hcw1, hfw1⟩ := bcell hb
    have HBw1 : Hid (Below w.heap.size w w1) := by
      apply Lib.hid
      refine Below.trans ?_ (hb.mono ?_)
      · repeat (first | exact Below.refl _ _ | refine Below.setCell ?_ (by first | (simp; done) | omega | (simp; omega)) _ | refine Below.alloc ?_ (by first | (simp; done) | omega | (simp; omega)) _)
      · first | (simp; done) | omega | (simp; omega)
    have hzw1 : w.heap.size < w1.heap.size := by have := hb.size; (try simp at this); omega
    clear hb
    go_wp2_with fail
    refine bodyPost_ret (v := .tuple #[.int .i64 0, .int .i64 k]) (by first | (simp [results, Tryd.results43, go_sem]; done) | (simp [results, Tryd.results43, go_sem, *]; done)) rfl ⟨rfl, ?_⟩
    repeat (first | exact Below.refl _ _ | exact HBw1.out | refine Below.setCell ?_ (by first | (simp; done) | omega | (simp; omega)) _ | refine Below.alloc ?_ (by first | (simp; done) | omega | (simp; omega)) _ | refine bel_drew ?_)
set_option maxHeartbeats 1000000 in
theorem implSto_any (s : ByteArray) (a b r d : Int) (hmax : s.size ≤ maxLen) (fb : fits b) (fr : fits r) (fd : fits d) (w : World) (hs : SinesOK w) :
    Calls Tryd.prog 23 #[.agg #[.string s, .int .i64 a, .int .i64 b], .int .i64 r, .int .i64 d] w fun e w' => e = .returned (stoV s a b r d) ∧ Below w.heap.size w w' := by
  have H := Lib.hid (fun w hs => hoAng_sto s a b r d hmax fb fr fd w hs)
  have E := Lib.hid hs
  clear hs hmax
  obtain ⟨x, c, hz⟩ := stoV_form s a b r d
  rw [hz] at H ⊢
  clear hz
  go_enter Tryd.func23, Tryd.ntmps23
  go_wp2_with fail
  refine (H.out _ (E.out.below (by repeat (first | exact Below.refl _ _ | refine Below.setCell ?_ (by first | (simp; done) | omega | (simp; omega)) _ | refine Below.alloc ?_ (by first | (simp; done) | omega | (simp; omega)) _ | refine bel_drew ?_)))).mono ?_
  rintro e w1 ⟨rfl, hb⟩
  have hsw1 := hb.size
  try simp at hsw1
  obtain ⟨hcw1, hfw1⟩ := bcell hb
  have HBw1 : Hid (Below w.heap.size w w1) := by
    apply Lib.hid
    refine Below.trans ?_ (hb.mono ?_)
    · repeat (first | exact Below.refl _ _ | refine Below.setCell ?_ (by first | (simp; done) | omega | (simp; omega)) _ | refine Below.alloc ?_ (by first | (simp; done) | omega | (simp; omega)) _)
    · first | (simp; done) | omega | (simp; omega)
  have hzw1 : w.heap.size < w1.heap.size := by have := hb.size; (try simp at this); omega
  clear hb
  go_wp2_with fail
  refine bodyPost_ret (v := .tuple #[.int .i64 x, .int .i64 c]) (by first | (simp [results, Tryd.results23, go_sem]; done) | (simp [results, Tryd.results23, go_sem, *]; done)) rfl ⟨rfl, ?_⟩
  repeat (first | exact Below.refl _ _ | exact HBw1.out | refine Below.setCell ?_ (by first | (simp; done) | omega | (simp; omega)) _ | refine Below.alloc ?_ (by first | (simp; done) | omega | (simp; omega)) _ | refine bel_drew ?_)

end Go.Proofs.YtlhkgfpimgmdfaaDoor
