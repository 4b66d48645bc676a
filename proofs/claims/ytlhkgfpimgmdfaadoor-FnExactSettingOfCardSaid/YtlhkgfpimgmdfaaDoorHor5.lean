/-
  When a star sets: the contracts of upAtHours and of the closures, of SettingHour (package impl).
-/
import Derived.Test.YtlhkgfpimgmdfaaDoorHor3
import Derived.Test.YtlhkgfpimgmdfaaDoorFirst
import Derived.Deep.Cut
namespace Go.Proofs.YtlhkgfpimgmdfaaDoor
open Go.RowKit
set_option linter.unusedVariables false

def upB (phi d h : Int) : Bool := decide (0 < hoR phi (0 - h) d)
theorem pHo_up (phi d : Int) (i : Nat) : pHo phi d i = !(upB phi d (0 + (i : Int))) := by
  unfold pHo upB
  rw [show (0 : Int) - (0 + (i : Int)) = -(i : Int) by omega]
  by_cases h : 0 < hoR phi (-(i : Int)) d
  · have h' : ¬ hoR phi (-(i : Int)) d ≤ 0 := by omega
    simp [h, h']
  · have h' : hoR phi (-(i : Int)) d ≤ 0 := by omega
    simp [h, h']
structure Ups (W : World) (g7 g1 g2 : Nat) (s : ByteArray) (a b d : Int) : Prop where
  c0 : W.cell? ⟨g1, 0, none⟩ = some (.string s)
  c1 : W.cell? ⟨g1, 1, none⟩ = some (.int .i64 a)
  c2 : W.cell? ⟨g1, 2, none⟩ = some (.int .i64 b)
  e0 : W.cell? ⟨g2, 0, none⟩ = some (.int .i64 d)
  f0 : W.cell? ⟨g7, 0, none⟩ = some (.func (.func 64) #[] #[.pointer (some ⟨g1, 0, none⟩), .pointer (some ⟨g2, 0, none⟩)])
theorem Ups.below {W W' : World} {g7 g1 g2 : Nat} {s : ByteArray} {a b d : Int} (h : Ups W g7 g1 g2 s a b d) (hb : Below W.heap.size W W') : Ups W' g7 g1 g2 s a b d := by
  obtain ⟨k, _⟩ := bcell hb
  have l1 := World.block_lt_of_cell? W ⟨g1, 0, none⟩ h.c0
  have l2 := World.block_lt_of_cell? W ⟨g2, 0, none⟩ h.e0
  have l7 := World.block_lt_of_cell? W ⟨g7, 0, none⟩ h.f0
  exact ⟨(k _ _ l1).trans h.c0, (k _ _ l1).trans h.c1, (k _ _ l1).trans h.c2, (k _ _ l2).trans h.e0, (k _ _ l7).trans h.f0⟩

set_option maxHeartbeats 1000000 in
theorem upIn_any (g7 g1 g2 : Nat) (s : ByteArray) (a b d h : Int) (p0 : -90000 ≤ b) (p1 : b ≤ 90000) (d0 : -90000 ≤ d) (d1 : d ≤ 90000) (h0 : 0 ≤ h) (h1 : h ≤ 360000) (w : World) (hs : SinesOK w) (hU : Ups w g7 g1 g2 s a b d) :
    Calls Tryd.prog 64 #[.int .i64 h, .pointer (some ⟨g1, 0, none⟩), .pointer (some ⟨g2, 0, none⟩)] w fun e w' => e = .returned (.bool (upB b d h)) ∧ Below w.heap.size w w' := by
  unfold upB
  have H := Lib.hid (fun w hs => horiz_any s a b h 0 d p0 p1 h0 h1 (by omega) (by omega) d0 d1 w hs)
  have E := Lib.hid hs
  clear hs
  generalize hoP b (0 - h) d = P at *
  generalize hoQ b (0 - h) d = Q at *
  generalize hoR b (0 - h) d = R at *
  obtain ⟨c0, c1, c2, e0, _⟩ := hU
  go_enter Tryd.func64, Tryd.ntmps64
  go_wp2_with fail
  refine (H.out _ (E.out.below (by first | exact Below.refl _ _ | (repeat (first | exact Below.refl _ _ | refine Below.alloc ?_ (by first | (simp; done) | (simp; omega)) _ | refine bel_drew ?_))))).mono ?_
  rintro e w1 ⟨rfl, hb⟩
  have hsz := hb.size
  try simp at hsz
  have HB := Lib.hid hb
  clear hb
  go_wp2_with fail
  refine bodyPost_ret (v := .bool (decide (0 < R))) (by first | (simp [results, Tryd.results64, go_sem]; done) | (simp [results, Tryd.results64, go_sem, *]; done)) rfl ⟨rfl, ?_⟩
  repeat (first | exact Below.refl _ _ | exact HB.out | refine Below.setCell ?_ (by first | (simp; done) | omega | (simp; omega)) _ | refine Below.alloc ?_ (by first | (simp; done) | omega | (simp; omega)) _ | refine bel_drew ?_)

set_option maxHeartbeats 1000000 in
theorem setIn_any (g7 g1 g2 : Nat) (s : ByteArray) (a b d h : Int) (p0 : -90000 ≤ b) (p1 : b ≤ 90000) (d0 : -90000 ≤ d) (d1 : d ≤ 90000) (h0 : 0 ≤ h) (h1 : h ≤ 360000) (w : World) (hs : SinesOK w) (hU : Ups w g7 g1 g2 s a b d) :
    Calls Tryd.prog 42 #[.int .i64 h, .pointer (some ⟨g7, 0, none⟩)] w fun e w' => e = .returned (.bool (!(upB b d h))) ∧ Below w.heap.size w w' := by
  have U := Lib.hid (upIn_any g7 g1 g2 s a b d h p0 p1 d0 d1 h0 h1 w hs hU)
  have f0 := hU.f0
  clear hs hU
  generalize upB b d h = q at *
  go_enter Tryd.func42, Tryd.ntmps42
  go_wp2_with fail
  refine U.out.mono ?_
  rintro e w' ⟨rfl, hb⟩
  go_wp2_with fail
  go_ret
  exact ⟨rfl, hb⟩

set_option maxHeartbeats 1000000 in
theorem upAt_any (s : ByteArray) (a b d : Int) (w : World) :
    Calls Tryd.prog 40 #[.agg #[.string s, .int .i64 a, .int .i64 b], .int .i64 d] w fun e w' => e = .returned (.func (.func 64) #[] #[.pointer (some ⟨w.heap.size, 0, none⟩), .pointer (some ⟨w.heap.size + 1, 0, none⟩)]) ∧ w' = (w.alloc (.cells #[.string s, .int .i64 a, .int .i64 b] 29)).alloc (.cells #[.int .i64 d] 2) := by
  go_enter Tryd.func40, Tryd.ntmps40
  go_wp2_with fail
  refine bodyPost_ret (v := .func (.func 64) #[] #[.pointer (some ⟨w.heap.size, 0, none⟩), .pointer (some ⟨w.heap.size + 1, 0, none⟩)]) (by first | (simp [results, Tryd.results40, go_sem]; done)) rfl ⟨rfl, rfl⟩
theorem store_up (W : World) (a : Addr) (m : Mode) (g1 g2 : Nat) : (store a (.func (.func 64) #[] #[.pointer (some ⟨g1, 0, none⟩), .pointer (some ⟨g2, 0, none⟩)]) m).run Tryd.prog W = stored Tryd.prog W a (.func (.func 64) #[] #[.pointer (some ⟨g1, 0, none⟩), .pointer (some ⟨g2, 0, none⟩)]) m := run_store Tryd.prog W a _ m rfl

def risB (phi d : Int) : Bool := upB phi d 0 && !(upB phi d 180000)
/-- What SettingHour returns. -/
def setV (s : ByteArray) (a b d : Int) : Value := if askI s a b 0 0 d = 0 then (if risB b d = true then .tuple #[.int .i64 (setN b d : Nat), .int .i64 0] else .tuple #[.int .i64 0, .int .i64 6]) else .tuple #[.int .i64 0, .int .i64 (askI s a b 0 0 d)]
theorem setV_form (s : ByteArray) (a b d : Int) : ∃ x c : Int, setV s a b d = .tuple #[.int .i64 x, .int .i64 c] := by
  unfold setV
  split
  · split <;> exact ⟨_, _, rfl⟩
  · exact ⟨_, _, rfl⟩

set_option maxRecDepth 100000 in
set_option maxHeartbeats 2000000 in
theorem implSet_any (s : ByteArray) (a b d : Int) (hmax : s.size ≤ maxLen) (w : World) (hs : SinesOK w) :
    Calls Tryd.prog 19 #[.agg #[.string s, .int .i64 a, .int .i64 b], .int .i64 d] w fun e w' => e = .returned (setV s a b d) ∧ Below w.heap.size w w' := by
  unfold setV
  have CK := Lib.hid (fun w => checkStar_any s a b 0 d hmax w)
  have E := Lib.hid hs
  clear hs hmax
  by_cases h : askI s a b 0 0 d = 0
  · rw [if_pos h]
    obtain ⟨hs, h0, h1, h2, h3, h4, h5⟩ := (ask_0 _ _ _ _ _ _).1 h
    rw [h] at CK
    have UA := Lib.hid (fun w => upAt_any s a b d w)
    have A0 := Lib.hid (fun (w : World) g7 g1 g2 hs hU => upIn_any g7 g1 g2 s a b d 0 h2.1 h2.2 h3.1 h3.2 (by omega) (by omega) w hs hU)
    have A1 := Lib.hid (fun (w : World) g7 g1 g2 hs hU => upIn_any g7 g1 g2 s a b d 180000 h2.1 h2.2 h3.1 h3.2 (by omega) (by omega) w hs hU)
    have FA := Lib.hid (fun (w : World) g7 g1 g2 (hs : SinesOK w) (hU : Ups w g7 g1 g2 s a b d) => firstAngle_any 0 180000 180000 42 #[.pointer (some ⟨g7, 0, none⟩)] (pHo b d) w (by omega) (by omega) (by omega) (by omega)
      (enters_of Tryd.func42 (by kernel_rfl) rfl)
      (fun W i hb hi => by rw [pHo_up]; exact setIn_any g7 g1 g2 s a b d (0 + (i : Int)) h2.1 h2.2 h3.1 h3.2 (by omega) (by omega) W (hs.below hb) (hU.below hb)) (pHo_mono b d h2.1 h2.2 h3.1 h3.2))
    have ez : (0 : Int) + ((cnt 180000 (pHo b d) : Nat) : Int) = ((setN b d : Nat) : Int) := by unfold setN; omega
    simp only [ez] at FA
    have HU := Lib.hid (fun (w1 : World) => (show Ups (((w1.alloc (.cells #[.string s, .int .i64 a, .int .i64 b] 29)).alloc (.cells #[.int .i64 d] 2)).alloc (.cells #[(.func (.func 64) #[] #[.pointer (some ⟨w1.heap.size, 0, none⟩), .pointer (some ⟨w1.heap.size + 1, 0, none⟩)])] 59)) (w1.heap.size + 1 + 1) w1.heap.size (w1.heap.size + 1) s a b d from by
      refine ⟨?_, ?_, ?_, ?_, ?_⟩
      · rw [World.cell?_alloc_lt _ _ _ (by first | (simp; done) | (simp; omega)), World.cell?_alloc_lt _ _ _ (by first | (simp; done) | (simp; omega))]; simp
      · rw [World.cell?_alloc_lt _ _ _ (by first | (simp; done) | (simp; omega)), World.cell?_alloc_lt _ _ _ (by first | (simp; done) | (simp; omega))]; simp
      · rw [World.cell?_alloc_lt _ _ _ (by first | (simp; done) | (simp; omega)), World.cell?_alloc_lt _ _ _ (by first | (simp; done) | (simp; omega))]; simp
      · rw [World.cell?_alloc_lt _ _ _ (by first | (simp; done) | (simp; omega))]; simp
      · rw [World.cell?_alloc_at _ _ _ _ (by first | (simp; done) | (simp; omega))]; rfl))
    have SF := store_up
    have hle := setN_le b d
    unfold risB
    clear h hs h0 h1 h2 h3 h4 h5 ez
    generalize setN b d = c at *
    generalize upB b d 0 = u0 at *
    generalize upB b d 180000 = u1 at *
    cases u0 with
    | false =>
      simp only [Bool.false_and, Bool.false_eq_true, if_false]
      go_enter Tryd.func19, Tryd.ntmps19
      go_wp2_with fail
      refine (CK.out _).mono ?_
      rintro e w1 ⟨rfl, hb⟩
      have hsw1 := hb.size
      try simp at hsw1
      obtain ⟨hcw1, hfw1⟩ := bcell hb
      have HBw1 : Hid (Below w.heap.size w w1) := by
        apply Lib.hid
        refine Below.trans ?_ (hb.mono ?_)
        · repeat (first | exact Below.refl _ _ | refine Below.setCell ?_ (by first | (simp; done) | omega | (simp; omega)) _ | refine Below.alloc ?_ (by first | (simp; done) | omega | (simp; omega)) _)
        · first | (simp; done) | omega | (simp; omega)
      have hzw1 : w.heap.size < w1.heap.size := by have := hb.size; (try simp at this); omega
      clear hb
      go_wp2_with fail
      refine (UA.out _).mono ?_
      rintro e w' ⟨rfl, rfl⟩
      obtain ⟨W3, hW3⟩ : ∃ W3, W3 = (((w1.alloc (.cells #[.string s, .int .i64 a, .int .i64 b] 29)).alloc (.cells #[.int .i64 d] 2)).alloc (.cells #[(.func (.func 64) #[] #[.pointer (some ⟨w1.heap.size, 0, none⟩), .pointer (some ⟨w1.heap.size + 1, 0, none⟩)])] 59)) := ⟨_, rfl⟩
      have HB3 : Hid (Below w.heap.size w W3) := Lib.hid (by rw [hW3]; exact (((HBw1.out.alloc (by first | (simp; done) | omega | (simp; omega)) _).alloc (by first | (simp; done) | omega | (simp; omega)) _).alloc (by first | (simp; done) | omega | (simp; omega)) _))
      have E3 := Lib.hid (E.out.below HB3.out)
      have HU3 : Hid (Ups W3 (w1.heap.size + 1 + 1) w1.heap.size (w1.heap.size + 1) s a b d) := Lib.hid (by rw [hW3]; exact HU.out w1)
      have f3 := HU3.out.f0
      have HW := Lib.hid hW3
      clear hW3
      go_upto_region 5 with fail
      rw [← HW.out]
      go_wp2_with fail
      refine (A0.out _ _ _ _ E3.out HU3.out).mono ?_
      rintro e w4 ⟨rfl, hb⟩
      have HU4 := Lib.hid (HU3.out.below hb)
      have E4 := Lib.hid (E3.out.below hb)
      have HB4 := Lib.hid (HB3.out.trans (hb.mono HB3.out.size))
      have f4 := HU4.out.f0
      clear hb f3
      go_wp2_with fail
      refine bodyPost_ret (v := .tuple #[.int .i64 0, .int .i64 6]) (by first | (simp [results, Tryd.results19, go_sem]; done) | (simp [results, Tryd.results19, go_sem, *]; done)) rfl ⟨rfl, ?_⟩
      repeat (first | exact Below.refl _ _ | exact HB4.out | refine Below.setCell ?_ (by first | (simp; done) | omega | (simp; omega)) _ | refine Below.alloc ?_ (by first | (simp; done) | omega | (simp; omega)) _ | refine bel_drew ?_)
    | true =>
      cases u1 with
      | false =>
        simp only [Bool.true_and, Bool.not_false, if_true]
        go_enter Tryd.func19, Tryd.ntmps19
        go_wp2_with fail
        refine (CK.out _).mono ?_
        rintro e w1 ⟨rfl, hb⟩
        have hsw1 := hb.size
        try simp at hsw1
        obtain ⟨hcw1, hfw1⟩ := bcell hb
        have HBw1 : Hid (Below w.heap.size w w1) := by
          apply Lib.hid
          refine Below.trans ?_ (hb.mono ?_)
          · repeat (first | exact Below.refl _ _ | refine Below.setCell ?_ (by first | (simp; done) | omega | (simp; omega)) _ | refine Below.alloc ?_ (by first | (simp; done) | omega | (simp; omega)) _)
          · first | (simp; done) | omega | (simp; omega)
        have hzw1 : w.heap.size < w1.heap.size := by have := hb.size; (try simp at this); omega
        clear hb
        go_wp2_with fail
        refine (UA.out _).mono ?_
        rintro e w' ⟨rfl, rfl⟩
        obtain ⟨W3, hW3⟩ : ∃ W3, W3 = (((w1.alloc (.cells #[.string s, .int .i64 a, .int .i64 b] 29)).alloc (.cells #[.int .i64 d] 2)).alloc (.cells #[(.func (.func 64) #[] #[.pointer (some ⟨w1.heap.size, 0, none⟩), .pointer (some ⟨w1.heap.size + 1, 0, none⟩)])] 59)) := ⟨_, rfl⟩
        have HB3 : Hid (Below w.heap.size w W3) := Lib.hid (by rw [hW3]; exact (((HBw1.out.alloc (by first | (simp; done) | omega | (simp; omega)) _).alloc (by first | (simp; done) | omega | (simp; omega)) _).alloc (by first | (simp; done) | omega | (simp; omega)) _))
        have E3 := Lib.hid (E.out.below HB3.out)
        have HU3 : Hid (Ups W3 (w1.heap.size + 1 + 1) w1.heap.size (w1.heap.size + 1) s a b d) := Lib.hid (by rw [hW3]; exact HU.out w1)
        have f3 := HU3.out.f0
        have HW := Lib.hid hW3
        clear hW3
        go_upto_region 5 with fail
        rw [← HW.out]
        go_wp2_with fail
        refine (A0.out _ _ _ _ E3.out HU3.out).mono ?_
        rintro e w4 ⟨rfl, hb⟩
        have HU4 := Lib.hid (HU3.out.below hb)
        have E4 := Lib.hid (E3.out.below hb)
        have HB4 := Lib.hid (HB3.out.trans (hb.mono HB3.out.size))
        have f4 := HU4.out.f0
        clear hb f3
        go_wp2_with fail
        refine (A1.out _ _ _ _ E4.out HU4.out).mono ?_
        rintro e w5 ⟨rfl, hb⟩
        have HU5 := Lib.hid (HU4.out.below hb)
        have E5 := Lib.hid (E4.out.below hb)
        have HB5 := Lib.hid (HB4.out.trans (hb.mono HB4.out.size))
        have f5 := HU5.out.f0
        clear hb f4
        go_wp2_with fail
        refine (FA.out _ _ _ _ E5.out HU5.out).mono ?_
        rintro e w6 ⟨rfl, hb⟩
        have HB6 := Lib.hid (HB5.out.trans (hb.mono HB5.out.size))
        clear hb f5
        go_wp2_with fail
        refine bodyPost_ret (v := .tuple #[.int .i64 (c : Nat), .int .i64 0]) (by first | (simp [results, Tryd.results19, go_sem]; done) | (simp [results, Tryd.results19, go_sem, *]; done)) rfl ⟨rfl, ?_⟩
        repeat (first | exact Below.refl _ _ | exact HB6.out | refine Below.setCell ?_ (by first | (simp; done) | omega | (simp; omega)) _ | refine Below.alloc ?_ (by first | (simp; done) | omega | (simp; omega)) _ | refine bel_drew ?_)
      | true =>
        simp only [Bool.true_and, Bool.not_true, Bool.false_eq_true, if_false]
        go_enter Tryd.func19, Tryd.ntmps19
        go_wp2_with fail
        refine (CK.out _).mono ?_
        rintro e w1 ⟨rfl, hb⟩
        have hsw1 := hb.size
        try simp at hsw1
        obtain ⟨hcw1, hfw1⟩ := bcell hb
        have HBw1 : Hid (Below w.heap.size w w1) := by
          apply Lib.hid
          refine Below.trans ?_ (hb.mono ?_)
          · repeat (first | exact Below.refl _ _ | refine Below.setCell ?_ (by first | (simp; done) | omega | (simp; omega)) _ | refine Below.alloc ?_ (by first | (simp; done) | omega | (simp; omega)) _)
          · first | (simp; done) | omega | (simp; omega)
        have hzw1 : w.heap.size < w1.heap.size := by have := hb.size; (try simp at this); omega
        clear hb
        go_wp2_with fail
        refine (UA.out _).mono ?_
        rintro e w' ⟨rfl, rfl⟩
        obtain ⟨W3, hW3⟩ : ∃ W3, W3 = (((w1.alloc (.cells #[.string s, .int .i64 a, .int .i64 b] 29)).alloc (.cells #[.int .i64 d] 2)).alloc (.cells #[(.func (.func 64) #[] #[.pointer (some ⟨w1.heap.size, 0, none⟩), .pointer (some ⟨w1.heap.size + 1, 0, none⟩)])] 59)) := ⟨_, rfl⟩
        have HB3 : Hid (Below w.heap.size w W3) := Lib.hid (by rw [hW3]; exact (((HBw1.out.alloc (by first | (simp; done) | omega | (simp; omega)) _).alloc (by first | (simp; done) | omega | (simp; omega)) _).alloc (by first | (simp; done) | omega | (simp; omega)) _))
        have E3 := Lib.hid (E.out.below HB3.out)
        have HU3 : Hid (Ups W3 (w1.heap.size + 1 + 1) w1.heap.size (w1.heap.size + 1) s a b d) := Lib.hid (by rw [hW3]; exact HU.out w1)
        have f3 := HU3.out.f0
        have HW := Lib.hid hW3
        clear hW3
        go_upto_region 5 with fail
        rw [← HW.out]
        go_wp2_with fail
        refine (A0.out _ _ _ _ E3.out HU3.out).mono ?_
        rintro e w4 ⟨rfl, hb⟩
        have HU4 := Lib.hid (HU3.out.below hb)
        have E4 := Lib.hid (E3.out.below hb)
        have HB4 := Lib.hid (HB3.out.trans (hb.mono HB3.out.size))
        have f4 := HU4.out.f0
        clear hb f3
        go_wp2_with fail
        refine (A1.out _ _ _ _ E4.out HU4.out).mono ?_
        rintro e w5 ⟨rfl, hb⟩
        have HU5 := Lib.hid (HU4.out.below hb)
        have E5 := Lib.hid (E4.out.below hb)
        have HB5 := Lib.hid (HB4.out.trans (hb.mono HB4.out.size))
        have f5 := HU5.out.f0
        clear hb f4
        go_wp2_with fail
        refine bodyPost_ret (v := .tuple #[.int .i64 0, .int .i64 6]) (by first | (simp [results, Tryd.results19, go_sem]; done) | (simp [results, Tryd.results19, go_sem, *]; done)) rfl ⟨rfl, ?_⟩
        repeat (first | exact Below.refl _ _ | exact HB5.out | refine Below.setCell ?_ (by first | (simp; done) | omega | (simp; omega)) _ | refine Below.alloc ?_ (by first | (simp; done) | omega | (simp; omega)) _ | refine bel_drew ?_)
  · rw [if_neg h]
    generalize askI s a b 0 0 d = k at *
    have hk : (k == 0) = false := by simpa using h
    clear h
    go_enter Tryd.func19, Tryd.ntmps19
    go_wp2_with fail
    refine (CK.out _).mono ?_
    rintro e w1 ⟨rfl, hb⟩
    have hsw1 := hb.size
    try simp at hsw1
    obtain ⟨hcw1, hfw1⟩ := bcell hb
    have HBw1 : Hid (Below w.heap.size w w1) := by
      apply Lib.hid
      refine Below.trans ?_ (hb.mono ?_)
      · repeat (first | exact Below.refl _ _ | refine Below.setCell ?_ (by first | (simp; done) | omega | (simp; omega)) _ | refine Below.alloc ?_ (by first | (simp; done) | omega | (simp; omega)) _)
      · first | (simp; done) | omega | (simp; omega)
    have hzw1 : w.heap.size < w1.heap.size := by have := hb.size; (try simp at this); omega
    clear hb
    go_wp2_with fail
    refine bodyPost_ret (v := .tuple #[.int .i64 0, .int .i64 k]) (by first | (simp [results, Tryd.results19, go_sem]; done) | (simp [results, Tryd.results19, go_sem, *]; done)) rfl ⟨rfl, ?_⟩
    repeat (first | exact Below.refl _ _ | exact HBw1.out | refine Below.setCell ?_ (by first | (simp; done) | omega | (simp; omega)) _ | refine Below.alloc ?_ (by first | (simp; done) | omega | (simp; omega)) _ | refine bel_drew ?_)
end Go.Proofs.YtlhkgfpimgmdfaaDoor
