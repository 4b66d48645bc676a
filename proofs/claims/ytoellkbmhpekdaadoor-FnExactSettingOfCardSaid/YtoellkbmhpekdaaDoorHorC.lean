/-
  The direction of a star over a site: the contracts of HorizontalVector (package impl) and of Horizontal (packages impl and spec).
  From azimuth and altitude back: the contracts of equatorial, EquatorialOf (package impl) and of EquatorialOf (package spec).
  When a star sets: the contracts of upAtHours and of the closures, of SettingHour (package impl).
  When a star sets and rises: the contracts of l06Setting, SettingHour, RisingOf, SettingOf (package spec), of horizonAngle, RisingOf, SettingOf (package impl).
-/
import Derived.Test.YtoellkbmhpekdaaDoorHor2
import Derived.Test.YtoellkbmhpekdaaDoorAng
import Derived.Test.YtoellkbmhpekdaaDoorSAng2
import Derived.Test.YtoellkbmhpekdaaDoorNrm
import Derived.Test.YtoellkbmhpekdaaDoorAngP
import Derived.Test.YtoellkbmhpekdaaDoorFirst
import Derived.Deep.Cut
import Derived.Deep.LoopGhost
namespace Go.Proofs.YtoellkbmhpekdaaDoor
section
open Go.RowKit
set_option linter.unusedVariables false

set_option maxRecDepth 100000 in
set_option maxHeartbeats 1000000 in
theorem implHV_any (s : ByteArray) (a b sid r d : Int) (hmax : s.size ≤ maxLen) (fb : fits b) (fs : fits sid) (fr : fits r) (fd : fits d) (w : World) (hs : SinesOK w) :
    Calls Tryd.prog 14 #[.agg #[.string s, .int .i64 a, .int .i64 b], .int .i64 sid, .int .i64 r, .int .i64 d] w fun e w' => e = .returned (horV s a b sid r d) ∧ Below w.heap.size w w' := by
  unfold horV
  have CK := Lib.hid (fun w => check_any s a b sid r d hmax w)
  have E := Lib.hid hs
  clear hs hmax
  by_cases h : askI s a b sid r d = 0
  · rw [if_pos h]
    obtain ⟨hs, h0, h1, h2, h3, h4, h5⟩ := (ask_0 _ _ _ _ _ _).1 h
    rw [h] at CK
    have V := Lib.hid (fun w hs => horiz_any s a b sid r d h2.1 h2.2 h0.1 (by omega) h1.1 (by omega) h3.1 h3.2 w hs)
    clear h hs h5
    generalize hoP b (r - sid) d = P at *
    generalize hoQ b (r - sid) d = Q at *
    generalize hoR b (r - sid) d = R at *
    go_enter Tryd.func14, Tryd.ntmps14
    go_wp2_with fail
    refine (CK.out _).mono ?_
    rintro e w1 ⟨rfl, hb⟩
    have hsw1 := hb.size
    try simp at hsw1
    obtain ⟨hcw1, hfw1⟩ := bcell hb
    have HBw1 : Hid (Below w.heap.size w w1) := by
      apply Lib.hid
      refine Below.trans ?_ (hb.mono ?_)
      · repeat (first | exact Below.refl _ _ | refine Below.setCell ?_ (by first | (simp; done) | omega | (simp; omega)) _ | refine Below.alloc ?_ (by first | (simp; done) | omega | (simp; omega)) _)
      · first | (simp; done) | omega | (simp; omega)
    have hzw1 : w.heap.size + 3 < w1.heap.size := by have := hb.size; (try simp at this); omega
    have hyw1 : w.heap.size + 2 < w1.heap.size := by have := hb.size; (try simp at this); omega
    have hxw1 : w.heap.size + 1 < w1.heap.size := by have := hb.size; (try simp at this); omega
    have huw1 : w.heap.size < w1.heap.size := by have := hb.size; (try simp at this); omega
    clear hb
    go_wp2_with fail
    refine (V.out _ (E.out.below (by repeat (first | exact Below.refl _ _ | exact HBw1.out | refine Below.setCell ?_ (by first | (simp; done) | omega | (simp; omega)) _ | refine Below.alloc ?_ (by first | (simp; done) | omega | (simp; omega)) _ | refine bel_drew ?_)))).mono ?_
    rintro e w2 ⟨rfl, hb⟩
    have hsw2 := hb.size
    try simp at hsw2
    obtain ⟨hcw2, hfw2⟩ := bcell hb
    have HBw2 : Hid (Below w.heap.size w w2) := by
      apply Lib.hid
      refine Below.trans ?_ (hb.mono ?_)
      · repeat (first | exact Below.refl _ _ | exact HBw1.out | refine Below.setCell ?_ (by first | (simp; done) | omega | (simp; omega)) _ | refine Below.alloc ?_ (by first | (simp; done) | omega | (simp; omega)) _)
      · first | (simp; done) | omega | (simp; omega)
    have hzw2 : w.heap.size + 3 < w2.heap.size := by have := hb.size; (try simp at this); omega
    have hyw2 : w.heap.size + 2 < w2.heap.size := by have := hb.size; (try simp at this); omega
    have hxw2 : w.heap.size + 1 < w2.heap.size := by have := hb.size; (try simp at this); omega
    have huw2 : w.heap.size < w2.heap.size := by have := hb.size; (try simp at this); omega
    clear hb
    first | (have gsw2w1 : w1.heap.size < w2.heap.size := by omega) | skip
    go_wp2_with fail
    have z0 : w2.cell? ⟨w.heap.size + 1, 0, none⟩ = some (.int .i64 0) := by rw [hcw2 _ _ (by omega), hcw1 _ _ (by first | (simp; done) | (simp; omega)), World.cell?_alloc_lt _ _ _ (by first | (simp; done) | (simp; omega)), World.cell?_alloc_lt _ _ _ (by first | (simp; done) | (simp; omega))]; simp
    have z1 : w2.cell? ⟨w.heap.size + 1, 1, none⟩ = some (.int .i64 0) := by rw [hcw2 _ _ (by omega), hcw1 _ _ (by first | (simp; done) | (simp; omega)), World.cell?_alloc_lt _ _ _ (by first | (simp; done) | (simp; omega)), World.cell?_alloc_lt _ _ _ (by first | (simp; done) | (simp; omega))]; simp
    have z2 : w2.cell? ⟨w.heap.size + 1, 2, none⟩ = some (.int .i64 0) := by rw [hcw2 _ _ (by omega), hcw1 _ _ (by first | (simp; done) | (simp; omega)), World.cell?_alloc_lt _ _ _ (by first | (simp; done) | (simp; omega)), World.cell?_alloc_lt _ _ _ (by first | (simp; done) | (simp; omega))]; simp
    clear hcw1 hcw2
    refine bodyPost_ret (v := .tuple #[.agg #[.int .i64 P, .int .i64 Q, .int .i64 R], .int .i64 0]) (by first | (simp [results, Tryd.results14, go_sem]; done) | (simp [results, Tryd.results14, go_sem, z0, z1, z2, *]; done)) rfl ⟨rfl, ?_⟩
    repeat (first | exact Below.refl _ _ | exact HBw2.out | refine Below.setCell ?_ (by first | (simp; done) | omega | (simp; omega)) _ | refine Below.alloc ?_ (by first | (simp; done) | omega | (simp; omega)) _ | refine bel_drew ?_)
  · rw [if_neg h]
    generalize askI s a b sid r d = k at *
    have hk : (k == 0) = false := by simpa using h
    clear h
    go_enter Tryd.func14, Tryd.ntmps14
    go_wp2_with fail
    refine (CK.out _).mono ?_
    rintro e w1 ⟨rfl, hb⟩
    have hsw1 := hb.size
    try simp at hsw1
    obtain ⟨hcw1, hfw1⟩ := bcell hb
    have HBw1 : Hid (Below w.heap.size w w1) := by
      apply Lib.hid
      refine Below.trans ?_ (hb.mono ?_)
      · repeat (first | exact Below.refl _ _ | refine Below.setCell ?_ (by first | (simp; done) | omega | (simp; omega)) _ | refine Below.alloc ?_ (by first | (simp; done) | omega | (simp; omega)) _)
      · first | (simp; done) | omega | (simp; omega)
    have hzw1 : w.heap.size + 3 < w1.heap.size := by have := hb.size; (try simp at this); omega
    have hyw1 : w.heap.size + 2 < w1.heap.size := by have := hb.size; (try simp at this); omega
    have hxw1 : w.heap.size + 1 < w1.heap.size := by have := hb.size; (try simp at this); omega
    have huw1 : w.heap.size < w1.heap.size := by have := hb.size; (try simp at this); omega
    clear hb
    go_wp2_with fail
    have z0 : w1.cell? ⟨w.heap.size + 1, 0, none⟩ = some (.int .i64 0) := by rw [hcw1 _ _ (by first | (simp; done) | (simp; omega)), World.cell?_alloc_lt _ _ _ (by first | (simp; done) | (simp; omega)), World.cell?_alloc_lt _ _ _ (by first | (simp; done) | (simp; omega))]; simp
    have z1 : w1.cell? ⟨w.heap.size + 1, 1, none⟩ = some (.int .i64 0) := by rw [hcw1 _ _ (by first | (simp; done) | (simp; omega)), World.cell?_alloc_lt _ _ _ (by first | (simp; done) | (simp; omega)), World.cell?_alloc_lt _ _ _ (by first | (simp; done) | (simp; omega))]; simp
    have z2 : w1.cell? ⟨w.heap.size + 1, 2, none⟩ = some (.int .i64 0) := by rw [hcw1 _ _ (by first | (simp; done) | (simp; omega)), World.cell?_alloc_lt _ _ _ (by first | (simp; done) | (simp; omega)), World.cell?_alloc_lt _ _ _ (by first | (simp; done) | (simp; omega))]; simp
    clear hcw1
    refine bodyPost_ret (v := .tuple #[.agg #[.int .i64 0, .int .i64 0, .int .i64 0], .int .i64 k]) (by first | (simp [results, Tryd.results14, go_sem]; done) | (simp [results, Tryd.results14, go_sem, z0, z1, z2, *]; done)) rfl ⟨rfl, ?_⟩
    repeat (first | exact Below.refl _ _ | exact HBw1.out | refine Below.setCell ?_ (by first | (simp; done) | omega | (simp; omega)) _ | refine Below.alloc ?_ (by first | (simp; done) | omega | (simp; omega)) _ | refine bel_drew ?_)

/-- What Horizontal returns. -/
def hzV (s : ByteArray) (a b sid r d : Int) : Value := if askI s a b sid r d = 0 then angV (hoP b (r - sid) d) (hoQ b (r - sid) d) (hoR b (r - sid) d) else .tuple #[.int .i64 0, .int .i64 0, .int .i64 (askI s a b sid r d)]
theorem hzV_form (s : ByteArray) (a b sid r d : Int) : ∃ x y c : Int, hzV s a b sid r d = .tuple #[.int .i64 x, .int .i64 y, .int .i64 c] := by
  unfold hzV
  split
  · exact angV_form _ _ _
  · exact ⟨_, _, _, rfl⟩

set_option maxHeartbeats 1000000 in
theorem implHz_any (s : ByteArray) (a b sid r d : Int) (hmax : s.size ≤ maxLen) (fb : fits b) (fs : fits sid) (fr : fits r) (fd : fits d) (w : World) (hs : SinesOK w) :
    Calls Tryd.prog 17 #[.agg #[.string s, .int .i64 a, .int .i64 b], .int .i64 sid, .int .i64 r, .int .i64 d] w fun e w' => e = .returned (hzV s a b sid r d) ∧ Below w.heap.size w w' := by
  unfold hzV
  have H := Lib.hid (fun w hs => implHV_any s a b sid r d hmax fb fs fr fd w hs)
  have G := Lib.hid (fun w hs => implAng_any (hoP b (r - sid) d) (hoQ b (r - sid) d) (hoR b (r - sid) d) w hs)
  have E := Lib.hid hs
  clear hs hmax
  unfold horV at H
  by_cases h : askI s a b sid r d = 0
  · rw [if_pos h]
    simp only [if_pos h] at H
    obtain ⟨u, v, c, hz⟩ := angV_form (hoP b (r - sid) d) (hoQ b (r - sid) d) (hoR b (r - sid) d)
    rw [hz] at G ⊢
    clear hz h
    generalize hoP b (r - sid) d = P at *
    generalize hoQ b (r - sid) d = Q at *
    generalize hoR b (r - sid) d = R at *
    clear fb fs fr fd
    go_enter Tryd.func17, Tryd.ntmps17
    go_wp2_with fail
    refine (H.out _ (E.out.below (by repeat (first | exact Below.refl _ _ | refine Below.setCell ?_ (by first | (simp; done) | omega | (simp; omega)) _ | refine Below.alloc ?_ (by first | (simp; done) | omega | (simp; omega)) _ | refine bel_drew ?_)))).mono ?_
    rintro e w1 ⟨rfl, hb⟩
    have hsw1 := hb.size
    try simp at hsw1
    obtain ⟨hcw1, hfw1⟩ := bcell hb
    have HBw1 : Hid (Below w.heap.size w w1) := by
      apply Lib.hid
      refine Below.trans ?_ (hb.mono ?_)
      · repeat (first | exact Below.refl _ _ | refine Below.setCell ?_ (by first | (simp; done) | omega | (simp; omega)) _ | refine Below.alloc ?_ (by first | (simp; done) | omega | (simp; omega)) _)
      · first | (simp; done) | omega | (simp; omega)
    have hzw1 : w.heap.size < w1.heap.size := by have := hb.size; (try simp at this); omega
    clear hb
    go_wp2_with fail
    refine (G.out _ (E.out.below (by repeat (first | exact Below.refl _ _ | exact HBw1.out | refine Below.setCell ?_ (by first | (simp; done) | omega | (simp; omega)) _ | refine Below.alloc ?_ (by first | (simp; done) | omega | (simp; omega)) _ | refine bel_drew ?_)))).mono ?_
    rintro e w2 ⟨rfl, hb⟩
    have hsw2 := hb.size
    try simp at hsw2
    obtain ⟨hcw2, hfw2⟩ := bcell hb
    have HBw2 : Hid (Below w.heap.size w w2) := by
      apply Lib.hid
      refine Below.trans ?_ (hb.mono ?_)
      · repeat (first | exact Below.refl _ _ | exact HBw1.out | refine Below.setCell ?_ (by first | (simp; done) | omega | (simp; omega)) _ | refine Below.alloc ?_ (by first | (simp; done) | omega | (simp; omega)) _)
      · first | (simp; done) | omega | (simp; omega)
    have hzw2 : w.heap.size < w2.heap.size := by have := hb.size; (try simp at this); omega
    clear hb
    first | (have gsw2w1 : w1.heap.size < w2.heap.size := by omega) | skip
    go_wp2_with fail
    refine bodyPost_ret (v := .tuple #[.int .i64 u, .int .i64 v, .int .i64 c]) (by first | (simp [results, Tryd.results17, go_sem]; done) | (simp [results, Tryd.results17, go_sem, *]; done)) rfl ⟨rfl, ?_⟩
    repeat (first | exact Below.refl _ _ | exact HBw2.out | refine Below.setCell ?_ (by first | (simp; done) | omega | (simp; omega)) _ | refine Below.alloc ?_ (by first | (simp; done) | omega | (simp; omega)) _ | refine bel_drew ?_)
  · rw [if_neg h]
    simp only [if_neg h] at H
    generalize askI s a b sid r d = k at *
    have hk : (k == 0) = false := by simpa using h
    clear h G fb fs fr fd
    go_enter Tryd.func17, Tryd.ntmps17
    go_wp2_with fail
    refine (H.out _ (E.out.below (by repeat (first | exact Below.refl _ _ | refine Below.setCell ?_ (by first | (simp; done) | omega | (simp; omega)) _ | refine Below.alloc ?_ (by first | (simp; done) | omega | (simp; omega)) _ | refine bel_drew ?_)))).mono ?_
    rintro e w1 ⟨rfl, hb⟩
    have hsw1 := hb.size
    try simp at hsw1
    obtain ⟨hcw1, hfw1⟩ := bcell hb
    have HBw1 : Hid (Below w.heap.size w w1) := by
      apply Lib.hid
      refine Below.trans ?_ (hb.mono ?_)
      · repeat (first | exact Below.refl _ _ | refine Below.setCell ?_ (by first | (simp; done) | omega | (simp; omega)) _ | refine Below.alloc ?_ (by first | (simp; done) | omega | (simp; omega)) _)
      · first | (simp; done) | omega | (simp; omega)
    have hzw1 : w.heap.size < w1.heap.size := by have := hb.size; (try simp at this); omega
    clear hb
    go_wp2_with fail
    refine bodyPost_ret (v := .tuple #[.int .i64 0, .int .i64 0, .int .i64 k]) (by first | (simp [results, Tryd.results17, go_sem]; done) | (simp [results, Tryd.results17, go_sem, *]; done)) rfl ⟨rfl, ?_⟩
    repeat (first | exact Below.refl _ _ | exact HBw1.out | refine Below.setCell ?_ (by first | (simp; done) | omega | (simp; omega)) _ | refine Below.alloc ?_ (by first | (simp; done) | omega | (simp; omega)) _ | refine bel_drew ?_)

set_option maxHeartbeats 1000000 in
theorem specHz_any (s : ByteArray) (a b sid r d : Int) (fb : fits b) (fs : fits sid) (fr : fits r) (fd : fits d) (w : World) :
    Calls Tryd.prog 16 #[.agg #[.string s, .int .i64 a, .int .i64 b], .int .i64 sid, .int .i64 r, .int .i64 d] w fun e w' => e = .returned (hzV s a b sid r d) ∧ Below w.heap.size w w' := by
  unfold hzV
  have H := Lib.hid (fun w => specHV_any s a b sid r d fb fs fr fd w)
  have G := Lib.hid (fun w => specAng_any (hoP b (r - sid) d) (hoQ b (r - sid) d) (hoR b (r - sid) d) w)
  unfold horV at H
  by_cases h : askI s a b sid r d = 0
  · rw [if_pos h]
    simp only [if_pos h] at H
    obtain ⟨u, v, c, hz⟩ := angV_form (hoP b (r - sid) d) (hoQ b (r - sid) d) (hoR b (r - sid) d)
    rw [hz] at G ⊢
    clear hz h
    generalize hoP b (r - sid) d = P at *
    generalize hoQ b (r - sid) d = Q at *
    generalize hoR b (r - sid) d = R at *
    clear fb fs fr fd
    go_enter Tryd.func16, Tryd.ntmps16
    go_wp2_with fail
    refine (H.out _).mono ?_
    rintro e w1 ⟨rfl, hb⟩
    have hsw1 := hb.size
    try simp at hsw1
    obtain ⟨hcw1, hfw1⟩ := bcell hb
    have HBw1 : Hid (Below w.heap.size w w1) := by
      apply Lib.hid
      refine Below.trans ?_ (hb.mono ?_)
      · repeat (first | exact Below.refl _ _ | refine Below.setCell ?_ (by first | (simp; done) | omega | (simp; omega)) _ | refine Below.alloc ?_ (by first | (simp; done) | omega | (simp; omega)) _)
      · first | (simp; done) | omega | (simp; omega)
    have hzw1 : w.heap.size < w1.heap.size := by have := hb.size; (try simp at this); omega
    clear hb
    go_wp2_with fail
    refine (G.out _).mono ?_
    rintro e w2 ⟨rfl, hb⟩
    have hsw2 := hb.size
    try simp at hsw2
    obtain ⟨hcw2, hfw2⟩ := bcell hb
    have HBw2 : Hid (Below w.heap.size w w2) := by
      apply Lib.hid
      refine Below.trans ?_ (hb.mono ?_)
      · repeat (first | exact Below.refl _ _ | exact HBw1.out | refine Below.setCell ?_ (by first | (simp; done) | omega | (simp; omega)) _ | refine Below.alloc ?_ (by first | (simp; done) | omega | (simp; omega)) _)
      · first | (simp; done) | omega | (simp; omega)
    have hzw2 : w.heap.size < w2.heap.size := by have := hb.size; (try simp at this); omega
    clear hb
    first | (have gsw2w1 : w1.heap.size < w2.heap.size := by omega) | skip
    go_wp2_with fail
    refine bodyPost_ret (v := .tuple #[.int .i64 u, .int .i64 v, .int .i64 c]) (by first | (simp [results, Tryd.results16, go_sem]; done) | (simp [results, Tryd.results16, go_sem, *]; done)) rfl ⟨rfl, ?_⟩
    repeat (first | exact Below.refl _ _ | exact HBw2.out | refine Below.setCell ?_ (by first | (simp; done) | omega | (simp; omega)) _ | refine Below.alloc ?_ (by first | (simp; done) | omega | (simp; omega)) _ | refine bel_drew ?_)
  · rw [if_neg h]
    simp only [if_neg h] at H
    generalize askI s a b sid r d = k at *
    have hk : (k == 0) = false := by simpa using h
    clear h G fb fs fr fd
    go_enter Tryd.func16, Tryd.ntmps16
    go_wp2_with fail
    refine (H.out _).mono ?_
    rintro e w1 ⟨rfl, hb⟩
    have hsw1 := hb.size
    try simp at hsw1
    obtain ⟨hcw1, hfw1⟩ := bcell hb
    have HBw1 : Hid (Below w.heap.size w w1) := by
      apply Lib.hid
      refine Below.trans ?_ (hb.mono ?_)
      · repeat (first | exact Below.refl _ _ | refine Below.setCell ?_ (by first | (simp; done) | omega | (simp; omega)) _ | refine Below.alloc ?_ (by first | (simp; done) | omega | (simp; omega)) _)
      · first | (simp; done) | omega | (simp; omega)
    have hzw1 : w.heap.size < w1.heap.size := by have := hb.size; (try simp at this); omega
    clear hb
    go_wp2_with fail
    refine bodyPost_ret (v := .tuple #[.int .i64 0, .int .i64 0, .int .i64 k]) (by first | (simp [results, Tryd.results16, go_sem]; done) | (simp [results, Tryd.results16, go_sem, *]; done)) rfl ⟨rfl, ?_⟩
    repeat (first | exact Below.refl _ _ | exact HBw1.out | refine Below.setCell ?_ (by first | (simp; done) | omega | (simp; omega)) _ | refine Below.alloc ?_ (by first | (simp; done) | omega | (simp; omega)) _ | refine bel_drew ?_)
theorem fin_Hor3 : True := trivial
end

section
open Go.RowKit
set_option linter.unusedVariables false

theorem keepB3 {w W W' : World} {b0 o0 b1 o1 b2 o2 : Nat} {v0 v1 v2 : Value} (h : W.cell? ⟨b0, o0, none⟩ = some v0 ∧ W.cell? ⟨b1, o1, none⟩ = some v1 ∧ W.cell? ⟨b2, o2, none⟩ = some v2 ∧ Below w.heap.size w W) (hb : Below W.heap.size W W') :
    W'.cell? ⟨b0, o0, none⟩ = some v0 ∧ W'.cell? ⟨b1, o1, none⟩ = some v1 ∧ W'.cell? ⟨b2, o2, none⟩ = some v2 ∧ Below w.heap.size w W' := keepA3 h hb
theorem stored3 {w W : World} {g b0 o0 b1 o1 b2 o2 : Nat} {u v s v0 v1 v2 : Value} (h : W.cell? ⟨b0, o0, none⟩ = some v0 ∧ W.cell? ⟨b1, o1, none⟩ = some v1 ∧ W.cell? ⟨b2, o2, none⟩ = some v2 ∧ Below w.heap.size w W) (g0 : g ≠ b0) (g1 : g ≠ b1) (g2 : g ≠ b2) (hg : w.heap.size ≤ g) :
    (((W.setCell ⟨g, 0, none⟩ u).setCell ⟨g, 1, none⟩ v).setCell ⟨g, 2, none⟩ s).cell? ⟨b0, o0, none⟩ = some v0 ∧ (((W.setCell ⟨g, 0, none⟩ u).setCell ⟨g, 1, none⟩ v).setCell ⟨g, 2, none⟩ s).cell? ⟨b1, o1, none⟩ = some v1 ∧ (((W.setCell ⟨g, 0, none⟩ u).setCell ⟨g, 1, none⟩ v).setCell ⟨g, 2, none⟩ s).cell? ⟨b2, o2, none⟩ = some v2 ∧ Below w.heap.size w (((W.setCell ⟨g, 0, none⟩ u).setCell ⟨g, 1, none⟩ v).setCell ⟨g, 2, none⟩ s) := by
  have k : ∀ b o x, g ≠ b → W.cell? ⟨b, o, none⟩ = some x → (((W.setCell ⟨g, 0, none⟩ u).setCell ⟨g, 1, none⟩ v).setCell ⟨g, 2, none⟩ s).cell? ⟨b, o, none⟩ = some x := by
    intro b o x hb hx
    rw [World.cell?_setCell_other (h := by simp [hb]), World.cell?_setCell_other (h := by simp [hb]), World.cell?_setCell_other (h := by simp [hb])]
    exact hx
  exact ⟨k _ _ _ g0 h.1, k _ _ _ g1 h.2.1, k _ _ _ g2 h.2.2.1, ((h.2.2.2.setCell hg _).setCell hg _).setCell hg _⟩

set_option maxHeartbeats 4000000 in
theorem equat_any (s : ByteArray) (a b sid az al : Int) (p0 : -90000 ≤ b) (p1 : b ≤ 90000) (r0 : 0 ≤ az) (r1 : az ≤ 360000) (d0 : -90000 ≤ al) (d1 : al ≤ 90000) (w : World) (hs : SinesOK w) :
    Calls Tryd.prog 45 #[.agg #[.string s, .int .i64 a, .int .i64 b, .int .i64 sid], .agg #[.int .i64 az, .int .i64 al]] w fun e w' => e = .returned (.tuple #[.agg #[.int .i64 (baX b az al), .int .i64 (baY b az al), .int .i64 (baZ b az al)], .int .i64 0]) ∧ Below w.heap.size w w' := by
  have T := Lib.hid (fun w hs => dirTow_any az al ⟨by omega, by omega⟩ w hs)
  rw [dirT_in _ _ d0 d1] at T
  have R := Lib.hid (fun w hs => implRot_any (sinI al) (dY az al) (dX az al) 2 (-b) (by omega) (by omega) w hs)
  rw [rot_ok _ _ _ _ (dir_ni _ _)] at R
  have EX := Lib.hid (fun w => exch_any (dX az al) (dY az al) (sinI al) w)
  unfold baX baY baZ
  have E := Lib.hid hs
  have eneg : IntKind.i64.wrap (-b) = -b := IntWalk.i64_in _ (by omega)
  clear hs
  simp only at T
  generalize roX 2 (sinI al) (dY az al) (dX az al) (sinI (-b)) (cosI (-b)) = X at *
  generalize roY 2 (sinI al) (dY az al) (dX az al) (sinI (-b)) (cosI (-b)) = Y at *
  generalize roZ 2 (sinI al) (dY az al) (dX az al) (sinI (-b)) (cosI (-b)) = Z at *
  generalize dX az al = x at *
  generalize dY az al = y at *
  generalize sinI al = z at *
  obtain ⟨W0, hW0⟩ : ∃ W0, W0 = ((w.alloc (.cells #[.string s, .int .i64 a, .int .i64 b, .int .i64 sid] 54)).alloc (.cells #[.int .i64 az, .int .i64 al] 56)).alloc (.cells #[.int .i64 0, .int .i64 0, .int .i64 0] 26) := ⟨_, rfl⟩
  have HB0 : Hid (Below w.heap.size w W0) := Lib.hid (by rw [hW0]; repeat (first | exact Below.refl _ _ | refine Below.alloc ?_ (by first | (simp; done) | (simp; omega)) _))
  have K0 : Hid (W0.cell? ⟨w.heap.size, 2, none⟩ = some (.int .i64 b) ∧ W0.cell? ⟨w.heap.size + 1, 0, none⟩ = some (.int .i64 az) ∧ W0.cell? ⟨w.heap.size + 1, 1, none⟩ = some (.int .i64 al) ∧ Below w.heap.size w W0) := Lib.hid ⟨by rw [hW0, World.cell?_alloc_lt _ _ _ (by first | (simp; done) | (simp; omega))]; simp, by rw [hW0, World.cell?_alloc_lt _ _ _ (by first | (simp; done) | (simp; omega))]; simp, by rw [hW0, World.cell?_alloc_lt _ _ _ (by first | (simp; done) | (simp; omega))]; simp, HB0.out⟩
  have R0 : Hid (C3 W0 (w.heap.size + 1 + 1) 0 0 0) := Lib.hid (by rw [hW0]; simpa using C3.new ((w.alloc (.cells #[.string s, .int .i64 a, .int .i64 b, .int .i64 sid] 54)).alloc (.cells #[.int .i64 az, .int .i64 al] 56)) 26 0 0 0)
  have HW := Lib.hid hW0
  clear hW0
  go_enter Tryd.func45, Tryd.ntmps45
  go_wp2_with fail
  rw [← HW.out]
  clear HW
  have E0 := Lib.hid (E.out.below HB0.out)
  obtain ⟨k0, k1, k2, k3⟩ := K0.out
  go_region_held3 (fun w' => w'.cell? ⟨w.heap.size, 2, none⟩ = some (.int .i64 b) ∧ w'.cell? ⟨w.heap.size + 1, 0, none⟩ = some (.int .i64 az) ∧ w'.cell? ⟨w.heap.size + 1, 1, none⟩ = some (.int .i64 al) ∧ Below w.heap.size w w') (first | (exact keepB3 K0.out (bel_drew (Below.refl _ _))) | (exact keepB3 K0.out y3) | (exact keepB3 K0.out y2) | (exact keepB3 K0.out y1) | (exact stored3 (keepB3 K0.out y3) (by omega) (by omega) (by omega) (by omega)) | go_keep) ((first
    | (go_at_call 73; (with_reducible refine (T.out _ (SinesOK.below E0.out (bel_drew (Below.refl _ _)))).mono ?_); rintro e x1 ⟨rfl, hx1⟩; have y1 := undrew hx1)
    | (go_at_call 74; (with_reducible refine (EX.out _).mono ?_); rintro e x2 ⟨rfl, hx2⟩; have y2 := onward y1 hx2)
    | (go_at_call 72; (with_reducible refine (R.out _ (SinesOK.below E0.out y2)).mono ?_); rintro e x3 ⟨rfl, hx3⟩; have y3 := onward y2 hx3; have rr := R0.out.on y3; obtain ⟨q0, q1, q2, q3, q4, q5⟩ := rr)))
  rename_i held
  have HB := Lib.hid held.2.2.2
  clear held k0 k1 k2 k3
  go_wp2_with fail
  refine bodyPost_ret (v := .tuple #[.agg #[.int .i64 X, .int .i64 Y, .int .i64 Z], .int .i64 0]) (by first | (simp [results, Tryd.results45, go_sem]; done) | (simp [results, Tryd.results45, go_sem, *]; done)) rfl ⟨rfl, ?_⟩
  repeat (first | exact Below.refl _ _ | exact HB.out | refine Below.setCell ?_ (by first | (simp; done) | omega | (simp; omega)) _ | refine Below.alloc ?_ (by first | (simp; done) | omega | (simp; omega)) _ | refine bel_drew ?_)

/-- What EquatorialOf returns. -/
def eqV (s : ByteArray) (a b sid az al : Int) : Value := if askI s a b sid az al = 0 then (if baX b az al = 0 ∧ baY b az al = 0 ∧ baZ b az al = 0 then .tuple #[.int .i64 0, .int .i64 0, .int .i64 6] else .tuple #[.int .i64 (nrm (sid + lonI (baX b az al) (baY b az al))), .int .i64 (latI (baX b az al) (baY b az al) (baZ b az al)), .int .i64 0]) else .tuple #[.int .i64 0, .int .i64 0, .int .i64 (askI s a b sid az al)]
theorem eqV_form (s : ByteArray) (a b sid az al : Int) : ∃ x y c : Int, eqV s a b sid az al = .tuple #[.int .i64 x, .int .i64 y, .int .i64 c] := by
  unfold eqV
  split
  · split <;> exact ⟨_, _, _, rfl⟩
  · exact ⟨_, _, _, rfl⟩
theorem lonI_bd (x y : Int) : 0 ≤ lonI x y ∧ lonI x y ≤ 360000 := by
  unfold lonI
  have := dirI_bd y x
  split <;> omega
theorem ang_in {x y z : Int} (h : inV 2000000 x y z) : angV x y z = if x = 0 ∧ y = 0 ∧ z = 0 then .tuple #[.int .i64 0, .int .i64 0, .int .i64 6] else .tuple #[.int .i64 (lonI x y), .int .i64 (latI x y z), .int .i64 0] := by
  unfold angV
  rw [if_pos (okV_in h)]

set_option maxRecDepth 100000 in
set_option maxHeartbeats 1000000 in
theorem implEq_any (s : ByteArray) (a b sid r d : Int) (hmax : s.size ≤ maxLen) (fb : fits b) (fs : fits sid) (fr : fits r) (fd : fits d) (w : World) (hs : SinesOK w) :
    Calls Tryd.prog 19 #[.agg #[.string s, .int .i64 a, .int .i64 b], .int .i64 sid, .int .i64 r, .int .i64 d] w fun e w' => e = .returned (eqV s a b sid r d) ∧ Below w.heap.size w w' := by
  unfold eqV
  have CK := Lib.hid (fun w => check_any s a b sid r d hmax w)
  have E := Lib.hid hs
  clear hs hmax
  by_cases h : askI s a b sid r d = 0
  · rw [if_pos h]
    obtain ⟨hs, h0, h1, h2, h3, h4, h5⟩ := (ask_0 _ _ _ _ _ _).1 h
    rw [h] at CK
    have V := Lib.hid (fun w hs => equat_any s a b sid r d h2.1 h2.2 h1.1 (by omega) h3.1 h3.2 w hs)
    have G := Lib.hid (fun w hs => implAng_any (baX b r d) (baY b r d) (baZ b r d) w hs)
    have lb := lonI_bd (baX b r d) (baY b r d)
    have N := Lib.hid (fun w => implNrm_any (sid + lonI (baX b r d) (baY b r d)) w (by omega) (by omega))
    rw [ang_in (ba_in b r d)] at G
    generalize nrm (sid + lonI (baX b r d) (baY b r d)) = Z0 at *
    clear h hs h5 fb fs fr fd
    by_cases hz : baX b r d = 0 ∧ baY b r d = 0 ∧ baZ b r d = 0
    · simp only [if_pos hz] at G ⊢
      clear hz
      generalize lonI (baX b r d) (baY b r d) = L at *
      generalize latI (baX b r d) (baY b r d) (baZ b r d) = M at *
      generalize baX b r d = P at *
      generalize baY b r d = Q at *
      generalize baZ b r d = R at *
      go_enter Tryd.func19, Tryd.ntmps19
      go_wp2_with fail
      refine (CK.out _).mono ?_
      rintro e w1 ⟨rfl, hb⟩
      have hsw1 := hb.size
      try simp at hsw1
      obtain ⟨hcw1, hfw1⟩ := bcell hb
      have HBw1 : Hid (Below w.heap.size w w1) := by
        apply Lib.hid
        refine Below.trans ?_ (hb.mono ?_)
        · repeat (first | exact Below.refl _ _ | refine Below.setCell ?_ (by first | (simp; done) | omega | (simp; omega)) _ | refine Below.alloc ?_ (by first | (simp; done) | omega | (simp; omega)) _)
        · first | (simp; done) | omega | (simp; omega)
      have hzw1 : w.heap.size + 2 < w1.heap.size := by have := hb.size; (try simp at this); omega
      have hyw1 : w.heap.size + 1 < w1.heap.size := by have := hb.size; (try simp at this); omega
      have hxw1 : w.heap.size < w1.heap.size := by have := hb.size; (try simp at this); omega
      clear hb
      go_wp2_with fail
      refine (V.out _ (E.out.below (by repeat (first | exact Below.refl _ _ | exact HBw1.out | refine Below.setCell ?_ (by first | (simp; done) | omega | (simp; omega)) _ | refine Below.alloc ?_ (by first | (simp; done) | omega | (simp; omega)) _ | refine bel_drew ?_)))).mono ?_
      rintro e w2 ⟨rfl, hb⟩
      have hsw2 := hb.size
      try simp at hsw2
      obtain ⟨hcw2, hfw2⟩ := bcell hb
      have HBw2 : Hid (Below w.heap.size w w2) := by
        apply Lib.hid
        refine Below.trans ?_ (hb.mono ?_)
        · repeat (first | exact Below.refl _ _ | exact HBw1.out | refine Below.setCell ?_ (by first | (simp; done) | omega | (simp; omega)) _ | refine Below.alloc ?_ (by first | (simp; done) | omega | (simp; omega)) _)
        · first | (simp; done) | omega | (simp; omega)
      have hzw2 : w.heap.size + 2 < w2.heap.size := by have := hb.size; (try simp at this); omega
      have hyw2 : w.heap.size + 1 < w2.heap.size := by have := hb.size; (try simp at this); omega
      have hxw2 : w.heap.size < w2.heap.size := by have := hb.size; (try simp at this); omega
      clear hb
      first | (have gsw2w1 : w1.heap.size < w2.heap.size := by omega) | skip
      go_wp2_with fail
      refine (G.out _ (E.out.below (by repeat (first | exact Below.refl _ _ | exact HBw2.out | refine Below.setCell ?_ (by first | (simp; done) | omega | (simp; omega)) _ | refine Below.alloc ?_ (by first | (simp; done) | omega | (simp; omega)) _ | refine bel_drew ?_)))).mono ?_
      rintro e w3 ⟨rfl, hb⟩
      have hsw3 := hb.size
      try simp at hsw3
      obtain ⟨hcw3, hfw3⟩ := bcell hb
      have HBw3 : Hid (Below w.heap.size w w3) := by
        apply Lib.hid
        refine Below.trans ?_ (hb.mono ?_)
        · repeat (first | exact Below.refl _ _ | exact HBw2.out | refine Below.setCell ?_ (by first | (simp; done) | omega | (simp; omega)) _ | refine Below.alloc ?_ (by first | (simp; done) | omega | (simp; omega)) _)
        · first | (simp; done) | omega | (simp; omega)
      have hzw3 : w.heap.size + 2 < w3.heap.size := by have := hb.size; (try simp at this); omega
      have hyw3 : w.heap.size + 1 < w3.heap.size := by have := hb.size; (try simp at this); omega
      have hxw3 : w.heap.size < w3.heap.size := by have := hb.size; (try simp at this); omega
      clear hb
      first | (have gsw3w1 : w1.heap.size < w3.heap.size := by omega) | skip
      first | (have gsw3w2 : w2.heap.size < w3.heap.size := by omega) | skip
      go_wp2_with fail
      refine bodyPost_ret (v := .tuple #[.int .i64 0, .int .i64 0, .int .i64 6]) (by first | (simp [results, Tryd.results19, go_sem]; done) | (simp [results, Tryd.results19, go_sem, *]; done)) rfl ⟨rfl, ?_⟩
      repeat (first | exact Below.refl _ _ | exact HBw3.out | refine Below.setCell ?_ (by first | (simp; done) | omega | (simp; omega)) _ | refine Below.alloc ?_ (by first | (simp; done) | omega | (simp; omega)) _ | refine bel_drew ?_)
    · simp only [if_neg hz] at G ⊢
      clear hz
      generalize lonI (baX b r d) (baY b r d) = L at *
      generalize latI (baX b r d) (baY b r d) (baZ b r d) = M at *
      generalize baX b r d = P at *
      generalize baY b r d = Q at *
      generalize baZ b r d = R at *
      go_enter Tryd.func19, Tryd.ntmps19
      go_wp2_with fail
      refine (CK.out _).mono ?_
      rintro e w1 ⟨rfl, hb⟩
      have hsw1 := hb.size
      try simp at hsw1
      obtain ⟨hcw1, hfw1⟩ := bcell hb
      have HBw1 : Hid (Below w.heap.size w w1) := by
        apply Lib.hid
        refine Below.trans ?_ (hb.mono ?_)
        · repeat (first | exact Below.refl _ _ | refine Below.setCell ?_ (by first | (simp; done) | omega | (simp; omega)) _ | refine Below.alloc ?_ (by first | (simp; done) | omega | (simp; omega)) _)
        · first | (simp; done) | omega | (simp; omega)
      have hzw1 : w.heap.size + 2 < w1.heap.size := by have := hb.size; (try simp at this); omega
      have hyw1 : w.heap.size + 1 < w1.heap.size := by have := hb.size; (try simp at this); omega
      have hxw1 : w.heap.size < w1.heap.size := by have := hb.size; (try simp at this); omega
      clear hb
      go_wp2_with fail
      refine (V.out _ (E.out.below (by repeat (first | exact Below.refl _ _ | exact HBw1.out | refine Below.setCell ?_ (by first | (simp; done) | omega | (simp; omega)) _ | refine Below.alloc ?_ (by first | (simp; done) | omega | (simp; omega)) _ | refine bel_drew ?_)))).mono ?_
      rintro e w2 ⟨rfl, hb⟩
      have hsw2 := hb.size
      try simp at hsw2
      obtain ⟨hcw2, hfw2⟩ := bcell hb
      have HBw2 : Hid (Below w.heap.size w w2) := by
        apply Lib.hid
        refine Below.trans ?_ (hb.mono ?_)
        · repeat (first | exact Below.refl _ _ | exact HBw1.out | refine Below.setCell ?_ (by first | (simp; done) | omega | (simp; omega)) _ | refine Below.alloc ?_ (by first | (simp; done) | omega | (simp; omega)) _)
        · first | (simp; done) | omega | (simp; omega)
      have hzw2 : w.heap.size + 2 < w2.heap.size := by have := hb.size; (try simp at this); omega
      have hyw2 : w.heap.size + 1 < w2.heap.size := by have := hb.size; (try simp at this); omega
      have hxw2 : w.heap.size < w2.heap.size := by have := hb.size; (try simp at this); omega
      clear hb
      first | (have gsw2w1 : w1.heap.size < w2.heap.size := by omega) | skip
      go_wp2_with fail
      refine (G.out _ (E.out.below (by repeat (first | exact Below.refl _ _ | exact HBw2.out | refine Below.setCell ?_ (by first | (simp; done) | omega | (simp; omega)) _ | refine Below.alloc ?_ (by first | (simp; done) | omega | (simp; omega)) _ | refine bel_drew ?_)))).mono ?_
      rintro e w3 ⟨rfl, hb⟩
      have hsw3 := hb.size
      try simp at hsw3
      obtain ⟨hcw3, hfw3⟩ := bcell hb
      have HBw3 : Hid (Below w.heap.size w w3) := by
        apply Lib.hid
        refine Below.trans ?_ (hb.mono ?_)
        · repeat (first | exact Below.refl _ _ | exact HBw2.out | refine Below.setCell ?_ (by first | (simp; done) | omega | (simp; omega)) _ | refine Below.alloc ?_ (by first | (simp; done) | omega | (simp; omega)) _)
        · first | (simp; done) | omega | (simp; omega)
      have hzw3 : w.heap.size + 2 < w3.heap.size := by have := hb.size; (try simp at this); omega
      have hyw3 : w.heap.size + 1 < w3.heap.size := by have := hb.size; (try simp at this); omega
      have hxw3 : w.heap.size < w3.heap.size := by have := hb.size; (try simp at this); omega
      clear hb
      first | (have gsw3w1 : w1.heap.size < w3.heap.size := by omega) | skip
      first | (have gsw3w2 : w2.heap.size < w3.heap.size := by omega) | skip
      go_wp2_with fail
      refine (N.out _).mono ?_
      rintro e w' ⟨rfl, rfl⟩
      go_wp2_with fail
      refine bodyPost_ret (v := .tuple #[.int .i64 Z0, .int .i64 M, .int .i64 0]) (by first | (simp [results, Tryd.results19, go_sem]; done) | (simp [results, Tryd.results19, go_sem, *]; done)) rfl ⟨rfl, ?_⟩
      repeat (first | exact Below.refl _ _ | exact HBw3.out | refine Below.setCell ?_ (by first | (simp; done) | omega | (simp; omega)) _ | refine Below.alloc ?_ (by first | (simp; done) | omega | (simp; omega)) _ | refine bel_drew ?_)
  · rw [if_neg h]
    generalize askI s a b sid r d = k at *
    have hk : (k == 0) = false := by simpa using h
    clear h
    go_enter Tryd.func19, Tryd.ntmps19
    go_wp2_with fail
    refine (CK.out _).mono ?_
    rintro e w1 ⟨rfl, hb⟩
    have hsw1 := hb.size
    try simp at hsw1
    obtain ⟨hcw1, hfw1⟩ := bcell hb
    have HBw1 : Hid (Below w.heap.size w w1) := by
      apply Lib.hid
      refine Below.trans ?_ (hb.mono ?_)
      · repeat (first | exact Below.refl _ _ | refine Below.setCell ?_ (by first | (simp; done) | omega | (simp; omega)) _ | refine Below.alloc ?_ (by first | (simp; done) | omega | (simp; omega)) _)
      · first | (simp; done) | omega | (simp; omega)
    have hzw1 : w.heap.size + 2 < w1.heap.size := by have := hb.size; (try simp at this); omega
    have hyw1 : w.heap.size + 1 < w1.heap.size := by have := hb.size; (try simp at this); omega
    have hxw1 : w.heap.size < w1.heap.size := by have := hb.size; (try simp at this); omega
    clear hb
    go_wp2_with fail
    refine bodyPost_ret (v := .tuple #[.int .i64 0, .int .i64 0, .int .i64 k]) (by first | (simp [results, Tryd.results19, go_sem]; done) | (simp [results, Tryd.results19, go_sem, *]; done)) rfl ⟨rfl, ?_⟩
    repeat (first | exact Below.refl _ _ | exact HBw1.out | refine Below.setCell ?_ (by first | (simp; done) | omega | (simp; omega)) _ | refine Below.alloc ?_ (by first | (simp; done) | omega | (simp; omega)) _ | refine bel_drew ?_)

theorem vec_eql (x y z : Int) (w : World) : (binOp .eql 26 (.agg #[.int .i64 x, .int .i64 y, .int .i64 z]) (.agg #[.int .i64 0, .int .i64 0, .int .i64 0])).run Tryd.prog w = .ok (.bool (decide (x = 0 ∧ y = 0 ∧ z = 0))) w := by
  rw [run_eql_struct]
  have hu : Tryd.prog.underlying 26 = some (.struct (Tryd.prog.fieldsOf 26)) := by kernel_rfl
  have hp : Tryd.prog.stoodInHeld 26 = false := by kernel_rfl
  rw [run_equalIn_agg w 9999 26 _ _ hu hp]
  simp only [Program.fieldsOf, Tryd.underlying26]
  simp [Op.eqFields, go_sem, Tryd.underlying2]
  by_cases h0 : x = 0 <;> by_cases h1 : y = 0 <;> by_cases h2 : z = 0 <;> simp [h0, h1, h2]
theorem vec_guard : Tryd.prog.eqGuardType Tryd.prog.depth 26 = false := by kernel_rfl

set_option maxRecDepth 100000 in
set_option maxHeartbeats 2000000 in
theorem specEq_any (s : ByteArray) (a b sid r d : Int) (fb : fits b) (fs : fits sid) (fr : fits r) (fd : fits d) (w : World) :
    Calls Tryd.prog 18 #[.agg #[.string s, .int .i64 a, .int .i64 b], .int .i64 sid, .int .i64 r, .int .i64 d] w fun e w' => e = .returned (eqV s a b sid r d) ∧ Below w.heap.size w w' := by
  unfold eqV
  have CK := Lib.hid (fun (w : World) g c0 c1 c2 => l06Ask_at g 0 s a b sid r d w c0 c1 c2)
  by_cases h : askI s a b sid r d = 0
  · rw [if_pos h]
    obtain ⟨hs, h0, h1, h2, h3, h4, h5⟩ := (ask_0 _ _ _ _ _ _).1 h
    rw [h] at CK
    have D := Lib.hid (fun w => l04Direction_any r d fr.1 fr.2 fd.1 fd.2 w)
    change Hid (∀ w, Calls Tryd.prog 40 #[.int .i64 r, .int .i64 d] w fun e w' => e = .returned (.agg #[.int .i64 (dX r d), .int .i64 (dY r d), .int .i64 (sinI d)]) ∧ Below w.heap.size w w') at D
    have R0 := Lib.hid (fun w => l04Rotated_any (sinI d) (dY r d) (dX r d) 2 (-b) (inV_2 (dir_ni _ _)) (by omega) (by omega) (by omega) w)
    change Hid (∀ w, Calls Tryd.prog 41 #[.agg #[.int .i64 (sinI d), .int .i64 (dY r d), .int .i64 (dX r d)], .int .i64 2, .int .i64 (-b)] w fun e w' => e = .returned (.agg #[.int .i64 (baX b r d), .int .i64 (baY b r d), .int .i64 (baZ b r d)]) ∧ Below w.heap.size w w') at R0
    have O := Lib.hid (fun w => l04Ok_any (baX b r d) (baY b r d) (baZ b r d) w)
    rw [okV_in (ba_in b r d)] at O
    have G := Lib.hid (fun w => l04Angles_any (baX b r d) (baY b r d) (baZ b r d) (ba_in b r d) w)
    have lb := lonI_bd (baX b r d) (baY b r d)
    have N := Lib.hid (fun w => l02Normal_any (sid + lonI (baX b r d) (baY b r d)) w (by omega) (by omega))
    have NE : ∀ w, (binOp .eql 26 (.agg #[.int .i64 (baX b r d), .int .i64 (baY b r d), .int .i64 (baZ b r d)]) (.agg #[.int .i64 0, .int .i64 0, .int .i64 0])).run Tryd.prog w = .ok (.bool (decide (baX b r d = 0 ∧ baY b r d = 0 ∧ baZ b r d = 0))) w := fun w => vec_eql _ _ _ w
    have EG : ∀ p q w, (eqGuard .eql 26 p q (.agg #[.int .i64 (baX b r d), .int .i64 (baY b r d), .int .i64 (baZ b r d)]) (.agg #[.int .i64 0, .int .i64 0, .int .i64 0])).run Tryd.prog w = .ok () w := fun p q w => run_eqGuard_agg w .eql 26 p q _ _ vec_guard
    generalize nrm (sid + lonI (baX b r d) (baY b r d)) = Z0 at *
    clear h hs h5
    by_cases hz : baX b r d = 0 ∧ baY b r d = 0 ∧ baZ b r d = 0
    · rw [decide_eq_true hz] at NE
      simp only [if_pos hz]
      clear hz
      generalize lonI (baX b r d) (baY b r d) = L at *
      generalize latI (baX b r d) (baY b r d) (baZ b r d) = M at *
      generalize baX b r d = P at *
      generalize baY b r d = Q at *
      generalize baZ b r d = R at *
      generalize dX r d = x at *
      generalize dY r d = y at *
      generalize sinI d = z at *
      go_enter Tryd.func18, Tryd.ntmps18
      go_wp2_with fail
      refine (CK.out _ _ (by simp) (by simp) (by simp)).mono ?_
      rintro e w' ⟨rfl, rfl⟩
      go_wp2_with fail
      refine (D.out _).mono ?_
      rintro e w1 ⟨rfl, hb⟩
      have hsw1 := hb.size
      try simp at hsw1
      obtain ⟨hcw1, hfw1⟩ := bcell hb
      have HBw1 : Hid (Below w.heap.size w w1) := by
        apply Lib.hid
        refine Below.trans ?_ (hb.mono ?_)
        · repeat (first | exact Below.refl _ _ | refine Below.setCell ?_ (by first | (simp; done) | omega | (simp; omega)) _ | refine Below.alloc ?_ (by first | (simp; done) | omega | (simp; omega)) _)
        · first | (simp; done) | omega | (simp; omega)
      have hzw1 : w.heap.size < w1.heap.size := by have := hb.size; (try simp at this); omega
      clear hb
      go_wp2_with fail
      refine (R0.out _).mono ?_
      rintro e w2 ⟨rfl, hb⟩
      have hsw2 := hb.size
      try simp at hsw2
      obtain ⟨hcw2, hfw2⟩ := bcell hb
      have HBw2 : Hid (Below w.heap.size w w2) := by
        apply Lib.hid
        refine Below.trans ?_ (hb.mono ?_)
        · repeat (first | exact Below.refl _ _ | exact HBw1.out | refine Below.setCell ?_ (by first | (simp; done) | omega | (simp; omega)) _ | refine Below.alloc ?_ (by first | (simp; done) | omega | (simp; omega)) _)
        · first | (simp; done) | omega | (simp; omega)
      have hzw2 : w.heap.size < w2.heap.size := by have := hb.size; (try simp at this); omega
      clear hb
      first | (have gsw2w1 : w1.heap.size < w2.heap.size := by omega) | skip
      go_wp2_with fail
      refine (O.out _).mono ?_
      rintro e w3 ⟨rfl, hb⟩
      have hsw3 := hb.size
      try simp at hsw3
      obtain ⟨hcw3, hfw3⟩ := bcell hb
      have HBw3 : Hid (Below w.heap.size w w3) := by
        apply Lib.hid
        refine Below.trans ?_ (hb.mono ?_)
        · repeat (first | exact Below.refl _ _ | exact HBw2.out | refine Below.setCell ?_ (by first | (simp; done) | omega | (simp; omega)) _ | refine Below.alloc ?_ (by first | (simp; done) | omega | (simp; omega)) _)
        · first | (simp; done) | omega | (simp; omega)
      have hzw3 : w.heap.size < w3.heap.size := by have := hb.size; (try simp at this); omega
      clear hb
      first | (have gsw3w1 : w1.heap.size < w3.heap.size := by omega) | skip
      first | (have gsw3w2 : w2.heap.size < w3.heap.size := by omega) | skip
      go_wp2_with fail
      refine bodyPost_ret (v := .tuple #[.int .i64 0, .int .i64 0, .int .i64 6]) (by first | (simp [results, Tryd.results18, go_sem]; done) | (simp [results, Tryd.results18, go_sem, *]; done)) rfl ⟨rfl, ?_⟩
      repeat (first | exact Below.refl _ _ | exact HBw3.out | refine Below.setCell ?_ (by first | (simp; done) | omega | (simp; omega)) _ | refine Below.alloc ?_ (by first | (simp; done) | omega | (simp; omega)) _ | refine bel_drew ?_)
    · rw [decide_eq_false hz] at NE
      simp only [if_neg hz]
      clear hz
      generalize lonI (baX b r d) (baY b r d) = L at *
      generalize latI (baX b r d) (baY b r d) (baZ b r d) = M at *
      generalize baX b r d = P at *
      generalize baY b r d = Q at *
      generalize baZ b r d = R at *
      generalize dX r d = x at *
      generalize dY r d = y at *
      generalize sinI d = z at *
      go_enter Tryd.func18, Tryd.ntmps18
      go_wp2_with fail
      refine (CK.out _ _ (by simp) (by simp) (by simp)).mono ?_
      rintro e w' ⟨rfl, rfl⟩
      go_wp2_with fail
      refine (D.out _).mono ?_
      rintro e w1 ⟨rfl, hb⟩
      have hsw1 := hb.size
      try simp at hsw1
      obtain ⟨hcw1, hfw1⟩ := bcell hb
      have HBw1 : Hid (Below w.heap.size w w1) := by
        apply Lib.hid
        refine Below.trans ?_ (hb.mono ?_)
        · repeat (first | exact Below.refl _ _ | refine Below.setCell ?_ (by first | (simp; done) | omega | (simp; omega)) _ | refine Below.alloc ?_ (by first | (simp; done) | omega | (simp; omega)) _)
        · first | (simp; done) | omega | (simp; omega)
      have hzw1 : w.heap.size < w1.heap.size := by have := hb.size; (try simp at this); omega
      clear hb
      go_wp2_with fail
      refine (R0.out _).mono ?_
      rintro e w2 ⟨rfl, hb⟩
      have hsw2 := hb.size
      try simp at hsw2
      obtain ⟨hcw2, hfw2⟩ := bcell hb
      have HBw2 : Hid (Below w.heap.size w w2) := by
        apply Lib.hid
        refine Below.trans ?_ (hb.mono ?_)
        · repeat (first | exact Below.refl _ _ | exact HBw1.out | refine Below.setCell ?_ (by first | (simp; done) | omega | (simp; omega)) _ | refine Below.alloc ?_ (by first | (simp; done) | omega | (simp; omega)) _)
        · first | (simp; done) | omega | (simp; omega)
      have hzw2 : w.heap.size < w2.heap.size := by have := hb.size; (try simp at this); omega
      clear hb
      first | (have gsw2w1 : w1.heap.size < w2.heap.size := by omega) | skip
      go_wp2_with fail
      refine (O.out _).mono ?_
      rintro e w3 ⟨rfl, hb⟩
      have hsw3 := hb.size
      try simp at hsw3
      obtain ⟨hcw3, hfw3⟩ := bcell hb
      have HBw3 : Hid (Below w.heap.size w w3) := by
        apply Lib.hid
        refine Below.trans ?_ (hb.mono ?_)
        · repeat (first | exact Below.refl _ _ | exact HBw2.out | refine Below.setCell ?_ (by first | (simp; done) | omega | (simp; omega)) _ | refine Below.alloc ?_ (by first | (simp; done) | omega | (simp; omega)) _)
        · first | (simp; done) | omega | (simp; omega)
      have hzw3 : w.heap.size < w3.heap.size := by have := hb.size; (try simp at this); omega
      clear hb
      first | (have gsw3w1 : w1.heap.size < w3.heap.size := by omega) | skip
      first | (have gsw3w2 : w2.heap.size < w3.heap.size := by omega) | skip
      go_wp2_with fail
      refine (G.out _).mono ?_
      rintro e w4 ⟨rfl, hb⟩
      have hsw4 := hb.size
      try simp at hsw4
      obtain ⟨hcw4, hfw4⟩ := bcell hb
      have HBw4 : Hid (Below w.heap.size w w4) := by
        apply Lib.hid
        refine Below.trans ?_ (hb.mono ?_)
        · repeat (first | exact Below.refl _ _ | exact HBw3.out | refine Below.setCell ?_ (by first | (simp; done) | omega | (simp; omega)) _ | refine Below.alloc ?_ (by first | (simp; done) | omega | (simp; omega)) _)
        · first | (simp; done) | omega | (simp; omega)
      have hzw4 : w.heap.size < w4.heap.size := by have := hb.size; (try simp at this); omega
      clear hb
      first | (have gsw4w1 : w1.heap.size < w4.heap.size := by omega) | skip
      first | (have gsw4w2 : w2.heap.size < w4.heap.size := by omega) | skip
      first | (have gsw4w3 : w3.heap.size < w4.heap.size := by omega) | skip
      go_wp2_with fail
      refine (N.out _).mono ?_
      rintro e w' ⟨rfl, rfl⟩
      go_wp2_with fail
      refine bodyPost_ret (v := .tuple #[.int .i64 Z0, .int .i64 M, .int .i64 0]) (by first | (simp [results, Tryd.results18, go_sem]; done) | (simp [results, Tryd.results18, go_sem, *]; done)) rfl ⟨rfl, ?_⟩
      repeat (first | exact Below.refl _ _ | exact HBw4.out | refine Below.setCell ?_ (by first | (simp; done) | omega | (simp; omega)) _ | refine Below.alloc ?_ (by first | (simp; done) | omega | (simp; omega)) _ | refine bel_drew ?_)
  · rw [if_neg h]
    generalize askI s a b sid r d = k at *
    have hk : (k == 0) = false := by simpa using h
    clear h
    go_enter Tryd.func18, Tryd.ntmps18
    go_wp2_with fail
    refine (CK.out _ _ (by simp) (by simp) (by simp)).mono ?_
    rintro e w' ⟨rfl, rfl⟩
    go_wp2_with fail
    refine bodyPost_ret (v := .tuple #[.int .i64 0, .int .i64 0, .int .i64 k]) (by first | (simp [results, Tryd.results18, go_sem]; done) | (simp [results, Tryd.results18, go_sem, *]; done)) rfl ⟨rfl, ?_⟩
    repeat (first | exact Below.refl _ _ | refine Below.setCell ?_ (by first | (simp; done) | omega | (simp; omega)) _ | refine Below.alloc ?_ (by first | (simp; done) | omega | (simp; omega)) _ | refine bel_drew ?_)
theorem fin_Hor4 : True := trivial
end

section
open Go.RowKit
set_option linter.unusedVariables false

def upB (phi d h : Int) : Bool := decide (0 < hoR phi (0 - h) d)
theorem pHo_up (phi d : Int) (i : Nat) : pHo phi d i = !(upB phi d (0 + (i : Int))) := by
  unfold pHo upB
  rw [show (0 : Int) - (0 + (i : Int)) = -(i : Int) by omega]
  by_cases h : 0 < hoR phi (-(i : Int)) d
  · have h' : ¬ hoR phi (-(i : Int)) d ≤ 0 := by omega
    simp [h, h']
  · have h' : hoR phi (-(i : Int)) d ≤ 0 := by omega
    simp [h, h']
structure Ups (W : World) (g7 g1 g2 : Nat) (s : ByteArray) (a b d : Int) : Prop where
  c0 : W.cell? ⟨g1, 0, none⟩ = some (.string s)
  c1 : W.cell? ⟨g1, 1, none⟩ = some (.int .i64 a)
  c2 : W.cell? ⟨g1, 2, none⟩ = some (.int .i64 b)
  e0 : W.cell? ⟨g2, 0, none⟩ = some (.int .i64 d)
  f0 : W.cell? ⟨g7, 0, none⟩ = some (.func (.func 85) #[] #[.pointer (some ⟨g1, 0, none⟩), .pointer (some ⟨g2, 0, none⟩)])
theorem Ups.below {W W' : World} {g7 g1 g2 : Nat} {s : ByteArray} {a b d : Int} (h : Ups W g7 g1 g2 s a b d) (hb : Below W.heap.size W W') : Ups W' g7 g1 g2 s a b d := by
  obtain ⟨k, _⟩ := bcell hb
  have l1 := World.block_lt_of_cell? W ⟨g1, 0, none⟩ h.c0
  have l2 := World.block_lt_of_cell? W ⟨g2, 0, none⟩ h.e0
  have l7 := World.block_lt_of_cell? W ⟨g7, 0, none⟩ h.f0
  exact ⟨(k _ _ l1).trans h.c0, (k _ _ l1).trans h.c1, (k _ _ l1).trans h.c2, (k _ _ l2).trans h.e0, (k _ _ l7).trans h.f0⟩

set_option maxHeartbeats 1000000 in
theorem upIn_any (g7 g1 g2 : Nat) (s : ByteArray) (a b d h : Int) (p0 : -90000 ≤ b) (p1 : b ≤ 90000) (d0 : -90000 ≤ d) (d1 : d ≤ 90000) (h0 : 0 ≤ h) (h1 : h ≤ 360000) (w : World) (hs : SinesOK w) (hU : Ups w g7 g1 g2 s a b d) :
    Calls Tryd.prog 85 #[.int .i64 h, .pointer (some ⟨g1, 0, none⟩), .pointer (some ⟨g2, 0, none⟩)] w fun e w' => e = .returned (.bool (upB b d h)) ∧ Below w.heap.size w w' := by
  unfold upB
  have H := Lib.hid (fun w hs => horiz_any s a b h 0 d p0 p1 h0 h1 (by omega) (by omega) d0 d1 w hs)
  have E := Lib.hid hs
  clear hs
  generalize hoP b (0 - h) d = P at *
  generalize hoQ b (0 - h) d = Q at *
  generalize hoR b (0 - h) d = R at *
  obtain ⟨c0, c1, c2, e0, _⟩ := hU
  go_enter Tryd.func85, Tryd.ntmps85
  go_wp2_with fail
  refine (H.out _ (E.out.below (by first | exact Below.refl _ _ | (repeat (first | exact Below.refl _ _ | refine Below.alloc ?_ (by first | (simp; done) | (simp; omega)) _ | refine bel_drew ?_))))).mono ?_
  rintro e w1 ⟨rfl, hb⟩
  have hsz := hb.size
  try simp at hsz
  have HB := Lib.hid hb
  clear hb
  go_wp2_with fail
  refine bodyPost_ret (v := .bool (decide (0 < R))) (by first | (simp [results, Tryd.results85, go_sem]; done) | (simp [results, Tryd.results85, go_sem, *]; done)) rfl ⟨rfl, ?_⟩
  repeat (first | exact Below.refl _ _ | exact HB.out | refine Below.setCell ?_ (by first | (simp; done) | omega | (simp; omega)) _ | refine Below.alloc ?_ (by first | (simp; done) | omega | (simp; omega)) _ | refine bel_drew ?_)

set_option maxHeartbeats 1000000 in
theorem setIn_any (g7 g1 g2 : Nat) (s : ByteArray) (a b d h : Int) (p0 : -90000 ≤ b) (p1 : b ≤ 90000) (d0 : -90000 ≤ d) (d1 : d ≤ 90000) (h0 : 0 ≤ h) (h1 : h ≤ 360000) (w : World) (hs : SinesOK w) (hU : Ups w g7 g1 g2 s a b d) :
    Calls Tryd.prog 51 #[.int .i64 h, .pointer (some ⟨g7, 0, none⟩)] w fun e w' => e = .returned (.bool (!(upB b d h))) ∧ Below w.heap.size w w' := by
  have U := Lib.hid (upIn_any g7 g1 g2 s a b d h p0 p1 d0 d1 h0 h1 w hs hU)
  have f0 := hU.f0
  clear hs hU
  generalize upB b d h = q at *
  go_enter Tryd.func51, Tryd.ntmps51
  go_wp2_with fail
  refine U.out.mono ?_
  rintro e w' ⟨rfl, hb⟩
  go_wp2_with fail
  go_ret
  exact ⟨rfl, hb⟩

set_option maxHeartbeats 1000000 in
theorem upAt_any (s : ByteArray) (a b d : Int) (w : World) :
    Calls Tryd.prog 49 #[.agg #[.string s, .int .i64 a, .int .i64 b], .int .i64 d] w fun e w' => e = .returned (.func (.func 85) #[] #[.pointer (some ⟨w.heap.size, 0, none⟩), .pointer (some ⟨w.heap.size + 1, 0, none⟩)]) ∧ w' = (w.alloc (.cells #[.string s, .int .i64 a, .int .i64 b] 29)).alloc (.cells #[.int .i64 d] 2) := by
  go_enter Tryd.func49, Tryd.ntmps49
  go_wp2_with fail
  refine bodyPost_ret (v := .func (.func 85) #[] #[.pointer (some ⟨w.heap.size, 0, none⟩), .pointer (some ⟨w.heap.size + 1, 0, none⟩)]) (by first | (simp [results, Tryd.results49, go_sem]; done)) rfl ⟨rfl, rfl⟩
theorem store_up (W : World) (a : Addr) (m : Mode) (g1 g2 : Nat) : (store a (.func (.func 85) #[] #[.pointer (some ⟨g1, 0, none⟩), .pointer (some ⟨g2, 0, none⟩)]) m).run Tryd.prog W = stored Tryd.prog W a (.func (.func 85) #[] #[.pointer (some ⟨g1, 0, none⟩), .pointer (some ⟨g2, 0, none⟩)]) m := run_store Tryd.prog W a _ m rfl

def risB (phi d : Int) : Bool := upB phi d 0 && !(upB phi d 180000)
/-- What SettingHour returns. -/
def setV (s : ByteArray) (a b d : Int) : Value := if askI s a b 0 0 d = 0 then (if risB b d = true then .tuple #[.int .i64 (setN b d : Nat), .int .i64 0] else .tuple #[.int .i64 0, .int .i64 6]) else .tuple #[.int .i64 0, .int .i64 (askI s a b 0 0 d)]
theorem setV_form (s : ByteArray) (a b d : Int) : ∃ x c : Int, setV s a b d = .tuple #[.int .i64 x, .int .i64 c] := by
  unfold setV
  split
  · split <;> exact ⟨_, _, rfl⟩
  · exact ⟨_, _, rfl⟩

set_option maxRecDepth 100000 in
set_option maxHeartbeats 2000000 in
theorem implSet_any (s : ByteArray) (a b d : Int) (hmax : s.size ≤ maxLen) (w : World) (hs : SinesOK w) :
    Calls Tryd.prog 21 #[.agg #[.string s, .int .i64 a, .int .i64 b], .int .i64 d] w fun e w' => e = .returned (setV s a b d) ∧ Below w.heap.size w w' := by
  unfold setV
  have CK := Lib.hid (fun w => checkStar_any s a b 0 d hmax w)
  have E := Lib.hid hs
  clear hs hmax
  by_cases h : askI s a b 0 0 d = 0
  · rw [if_pos h]
    obtain ⟨hs, h0, h1, h2, h3, h4, h5⟩ := (ask_0 _ _ _ _ _ _).1 h
    rw [h] at CK
    have UA := Lib.hid (fun w => upAt_any s a b d w)
    have A0 := Lib.hid (fun (w : World) g7 g1 g2 hs hU => upIn_any g7 g1 g2 s a b d 0 h2.1 h2.2 h3.1 h3.2 (by omega) (by omega) w hs hU)
    have A1 := Lib.hid (fun (w : World) g7 g1 g2 hs hU => upIn_any g7 g1 g2 s a b d 180000 h2.1 h2.2 h3.1 h3.2 (by omega) (by omega) w hs hU)
    have FA := Lib.hid (fun (w : World) g7 g1 g2 (hs : SinesOK w) (hU : Ups w g7 g1 g2 s a b d) => firstAngle_any 0 180000 180000 51 #[.pointer (some ⟨g7, 0, none⟩)] (pHo b d) w (by omega) (by omega) (by omega) (by omega)
      (enters_of Tryd.func51 (by kernel_rfl) rfl)
      (fun W i hb hi => by rw [pHo_up]; exact setIn_any g7 g1 g2 s a b d (0 + (i : Int)) h2.1 h2.2 h3.1 h3.2 (by omega) (by omega) W (hs.below hb) (hU.below hb)) (pHo_mono b d h2.1 h2.2 h3.1 h3.2))
    have ez : (0 : Int) + ((cnt 180000 (pHo b d) : Nat) : Int) = ((setN b d : Nat) : Int) := by unfold setN; omega
    simp only [ez] at FA
    have HU := Lib.hid (fun (w1 : World) => (show Ups (((w1.alloc (.cells #[.string s, .int .i64 a, .int .i64 b] 29)).alloc (.cells #[.int .i64 d] 2)).alloc (.cells #[(.func (.func 85) #[] #[.pointer (some ⟨w1.heap.size, 0, none⟩), .pointer (some ⟨w1.heap.size + 1, 0, none⟩)])] 68)) (w1.heap.size + 1 + 1) w1.heap.size (w1.heap.size + 1) s a b d from by
      refine ⟨?_, ?_, ?_, ?_, ?_⟩
      · rw [World.cell?_alloc_lt _ _ _ (by first | (simp; done) | (simp; omega)), World.cell?_alloc_lt _ _ _ (by first | (simp; done) | (simp; omega))]; simp
      · rw [World.cell?_alloc_lt _ _ _ (by first | (simp; done) | (simp; omega)), World.cell?_alloc_lt _ _ _ (by first | (simp; done) | (simp; omega))]; simp
      · rw [World.cell?_alloc_lt _ _ _ (by first | (simp; done) | (simp; omega)), World.cell?_alloc_lt _ _ _ (by first | (simp; done) | (simp; omega))]; simp
      · rw [World.cell?_alloc_lt _ _ _ (by first | (simp; done) | (simp; omega))]; simp
      · rw [World.cell?_alloc_at _ _ _ _ (by first | (simp; done) | (simp; omega))]; rfl))
    have SF := store_up
    have hle := setN_le b d
    unfold risB
    clear h hs h0 h1 h2 h3 h4 h5 ez
    generalize setN b d = c at *
    generalize upB b d 0 = u0 at *
    generalize upB b d 180000 = u1 at *
    cases u0 with
    | false =>
      simp only [Bool.false_and, Bool.false_eq_true, if_false]
      go_enter Tryd.func21, Tryd.ntmps21
      go_wp2_with fail
      refine (CK.out _).mono ?_
      rintro e w1 ⟨rfl, hb⟩
      have hsw1 := hb.size
      try simp at hsw1
      obtain ⟨hcw1, hfw1⟩ := bcell hb
      have HBw1 : Hid (Below w.heap.size w w1) := by
        apply Lib.hid
        refine Below.trans ?_ (hb.mono ?_)
        · repeat (first | exact Below.refl _ _ | refine Below.setCell ?_ (by first | (simp; done) | omega | (simp; omega)) _ | refine Below.alloc ?_ (by first | (simp; done) | omega | (simp; omega)) _)
        · first | (simp; done) | omega | (simp; omega)
      have hzw1 : w.heap.size < w1.heap.size := by have := hb.size; (try simp at this); omega
      clear hb
      go_wp2_with fail
      refine (UA.out _).mono ?_
      rintro e w' ⟨rfl, rfl⟩
      obtain ⟨W3, hW3⟩ : ∃ W3, W3 = (((w1.alloc (.cells #[.string s, .int .i64 a, .int .i64 b] 29)).alloc (.cells #[.int .i64 d] 2)).alloc (.cells #[(.func (.func 85) #[] #[.pointer (some ⟨w1.heap.size, 0, none⟩), .pointer (some ⟨w1.heap.size + 1, 0, none⟩)])] 68)) := ⟨_, rfl⟩
      have HB3 : Hid (Below w.heap.size w W3) := Lib.hid (by rw [hW3]; exact (((HBw1.out.alloc (by first | (simp; done) | omega | (simp; omega)) _).alloc (by first | (simp; done) | omega | (simp; omega)) _).alloc (by first | (simp; done) | omega | (simp; omega)) _))
      have E3 := Lib.hid (E.out.below HB3.out)
      have HU3 : Hid (Ups W3 (w1.heap.size + 1 + 1) w1.heap.size (w1.heap.size + 1) s a b d) := Lib.hid (by rw [hW3]; exact HU.out w1)
      have f3 := HU3.out.f0
      have HW := Lib.hid hW3
      clear hW3
      go_upto_region 5 with fail
      rw [← HW.out]
      go_wp2_with fail
      refine (A0.out _ _ _ _ E3.out HU3.out).mono ?_
      rintro e w4 ⟨rfl, hb⟩
      have HU4 := Lib.hid (HU3.out.below hb)
      have E4 := Lib.hid (E3.out.below hb)
      have HB4 := Lib.hid (HB3.out.trans (hb.mono HB3.out.size))
      have f4 := HU4.out.f0
      clear hb f3
      go_wp2_with fail
      refine bodyPost_ret (v := .tuple #[.int .i64 0, .int .i64 6]) (by first | (simp [results, Tryd.results21, go_sem]; done) | (simp [results, Tryd.results21, go_sem, *]; done)) rfl ⟨rfl, ?_⟩
      repeat (first | exact Below.refl _ _ | exact HB4.out | refine Below.setCell ?_ (by first | (simp; done) | omega | (simp; omega)) _ | refine Below.alloc ?_ (by first | (simp; done) | omega | (simp; omega)) _ | refine bel_drew ?_)
    | true =>
      cases u1 with
      | false =>
        simp only [Bool.true_and, Bool.not_false, if_true]
        go_enter Tryd.func21, Tryd.ntmps21
        go_wp2_with fail
        refine (CK.out _).mono ?_
        rintro e w1 ⟨rfl, hb⟩
        have hsw1 := hb.size
        try simp at hsw1
        obtain ⟨hcw1, hfw1⟩ := bcell hb
        have HBw1 : Hid (Below w.heap.size w w1) := by
          apply Lib.hid
          refine Below.trans ?_ (hb.mono ?_)
          · repeat (first | exact Below.refl _ _ | refine Below.setCell ?_ (by first | (simp; done) | omega | (simp; omega)) _ | refine Below.alloc ?_ (by first | (simp; done) | omega | (simp; omega)) _)
          · first | (simp; done) | omega | (simp; omega)
        have hzw1 : w.heap.size < w1.heap.size := by have := hb.size; (try simp at this); omega
        clear hb
        go_wp2_with fail
        refine (UA.out _).mono ?_
        rintro e w' ⟨rfl, rfl⟩
        obtain ⟨W3, hW3⟩ : ∃ W3, W3 = (((w1.alloc (.cells #[.string s, .int .i64 a, .int .i64 b] 29)).alloc (.cells #[.int .i64 d] 2)).alloc (.cells #[(.func (.func 85) #[] #[.pointer (some ⟨w1.heap.size, 0, none⟩), .pointer (some ⟨w1.heap.size + 1, 0, none⟩)])] 68)) := ⟨_, rfl⟩
        have HB3 : Hid (Below w.heap.size w W3) := Lib.hid (by rw [hW3]; exact (((HBw1.out.alloc (by first | (simp; done) | omega | (simp; omega)) _).alloc (by first | (simp; done) | omega | (simp; omega)) _).alloc (by first | (simp; done) | omega | (simp; omega)) _))
        have E3 := Lib.hid (E.out.below HB3.out)
        have HU3 : Hid (Ups W3 (w1.heap.size + 1 + 1) w1.heap.size (w1.heap.size + 1) s a b d) := Lib.hid (by rw [hW3]; exact HU.out w1)
        have f3 := HU3.out.f0
        have HW := Lib.hid hW3
        clear hW3
        go_upto_region 5 with fail
        rw [← HW.out]
        go_wp2_with fail
        refine (A0.out _ _ _ _ E3.out HU3.out).mono ?_
        rintro e w4 ⟨rfl, hb⟩
        have HU4 := Lib.hid (HU3.out.below hb)
        have E4 := Lib.hid (E3.out.below hb)
        have HB4 := Lib.hid (HB3.out.trans (hb.mono HB3.out.size))
        have f4 := HU4.out.f0
        clear hb f3
        go_wp2_with fail
        refine (A1.out _ _ _ _ E4.out HU4.out).mono ?_
        rintro e w5 ⟨rfl, hb⟩
        have HU5 := Lib.hid (HU4.out.below hb)
        have E5 := Lib.hid (E4.out.below hb)
        have HB5 := Lib.hid (HB4.out.trans (hb.mono HB4.out.size))
        have f5 := HU5.out.f0
        clear hb f4
        go_wp2_with fail
        refine (FA.out _ _ _ _ E5.out HU5.out).mono ?_
        rintro e w6 ⟨rfl, hb⟩
        have HB6 := Lib.hid (HB5.out.trans (hb.mono HB5.out.size))
        clear hb f5
        go_wp2_with fail
        refine bodyPost_ret (v := .tuple #[.int .i64 (c : Nat), .int .i64 0]) (by first | (simp [results, Tryd.results21, go_sem]; done) | (simp [results, Tryd.results21, go_sem, *]; done)) rfl ⟨rfl, ?_⟩
        repeat (first | exact Below.refl _ _ | exact HB6.out | refine Below.setCell ?_ (by first | (simp; done) | omega | (simp; omega)) _ | refine Below.alloc ?_ (by first | (simp; done) | omega | (simp; omega)) _ | refine bel_drew ?_)
      | true =>
        simp only [Bool.true_and, Bool.not_true, Bool.false_eq_true, if_false]
        go_enter Tryd.func21, Tryd.ntmps21
        go_wp2_with fail
        refine (CK.out _).mono ?_
        rintro e w1 ⟨rfl, hb⟩
        have hsw1 := hb.size
        try simp at hsw1
        obtain ⟨hcw1, hfw1⟩ := bcell hb
        have HBw1 : Hid (Below w.heap.size w w1) := by
          apply Lib.hid
          refine Below.trans ?_ (hb.mono ?_)
          · repeat (first | exact Below.refl _ _ | refine Below.setCell ?_ (by first | (simp; done) | omega | (simp; omega)) _ | refine Below.alloc ?_ (by first | (simp; done) | omega | (simp; omega)) _)
          · first | (simp; done) | omega | (simp; omega)
        have hzw1 : w.heap.size < w1.heap.size := by have := hb.size; (try simp at this); omega
        clear hb
        go_wp2_with fail
        refine (UA.out _).mono ?_
        rintro e w' ⟨rfl, rfl⟩
        obtain ⟨W3, hW3⟩ : ∃ W3, W3 = (((w1.alloc (.cells #[.string s, .int .i64 a, .int .i64 b] 29)).alloc (.cells #[.int .i64 d] 2)).alloc (.cells #[(.func (.func 85) #[] #[.pointer (some ⟨w1.heap.size, 0, none⟩), .pointer (some ⟨w1.heap.size + 1, 0, none⟩)])] 68)) := ⟨_, rfl⟩
        have HB3 : Hid (Below w.heap.size w W3) := Lib.hid (by rw [hW3]; exact (((HBw1.out.alloc (by first | (simp; done) | omega | (simp; omega)) _).alloc (by first | (simp; done) | omega | (simp; omega)) _).alloc (by first | (simp; done) | omega | (simp; omega)) _))
        have E3 := Lib.hid (E.out.below HB3.out)
        have HU3 : Hid (Ups W3 (w1.heap.size + 1 + 1) w1.heap.size (w1.heap.size + 1) s a b d) := Lib.hid (by rw [hW3]; exact HU.out w1)
        have f3 := HU3.out.f0
        have HW := Lib.hid hW3
        clear hW3
        go_upto_region 5 with fail
        rw [← HW.out]
        go_wp2_with fail
        refine (A0.out _ _ _ _ E3.out HU3.out).mono ?_
        rintro e w4 ⟨rfl, hb⟩
        have HU4 := Lib.hid (HU3.out.below hb)
        have E4 := Lib.hid (E3.out.below hb)
        have HB4 := Lib.hid (HB3.out.trans (hb.mono HB3.out.size))
        have f4 := HU4.out.f0
        clear hb f3
        go_wp2_with fail
        refine (A1.out _ _ _ _ E4.out HU4.out).mono ?_
        rintro e w5 ⟨rfl, hb⟩
        have HU5 := Lib.hid (HU4.out.below hb)
        have E5 := Lib.hid (E4.out.below hb)
        have HB5 := Lib.hid (HB4.out.trans (hb.mono HB4.out.size))
        have f5 := HU5.out.f0
        clear hb f4
        go_wp2_with fail
        refine bodyPost_ret (v := .tuple #[.int .i64 0, .int .i64 6]) (by first | (simp [results, Tryd.results21, go_sem]; done) | (simp [results, Tryd.results21, go_sem, *]; done)) rfl ⟨rfl, ?_⟩
        repeat (first | exact Below.refl _ _ | exact HB5.out | refine Below.setCell ?_ (by first | (simp; done) | omega | (simp; omega)) _ | refine Below.alloc ?_ (by first | (simp; done) | omega | (simp; omega)) _ | refine bel_drew ?_)
  · rw [if_neg h]
    generalize askI s a b 0 0 d = k at *
    have hk : (k == 0) = false := by simpa using h
    clear h
    go_enter Tryd.func21, Tryd.ntmps21
    go_wp2_with fail
    refine (CK.out _).mono ?_
    rintro e w1 ⟨rfl, hb⟩
    have hsw1 := hb.size
    try simp at hsw1
    obtain ⟨hcw1, hfw1⟩ := bcell hb
    have HBw1 : Hid (Below w.heap.size w w1) := by
      apply Lib.hid
      refine Below.trans ?_ (hb.mono ?_)
      · repeat (first | exact Below.refl _ _ | refine Below.setCell ?_ (by first | (simp; done) | omega | (simp; omega)) _ | refine Below.alloc ?_ (by first | (simp; done) | omega | (simp; omega)) _)
      · first | (simp; done) | omega | (simp; omega)
    have hzw1 : w.heap.size < w1.heap.size := by have := hb.size; (try simp at this); omega
    clear hb
    go_wp2_with fail
    refine bodyPost_ret (v := .tuple #[.int .i64 0, .int .i64 k]) (by first | (simp [results, Tryd.results21, go_sem]; done) | (simp [results, Tryd.results21, go_sem, *]; done)) rfl ⟨rfl, ?_⟩
    repeat (first | exact Below.refl _ _ | exact HBw1.out | refine Below.setCell ?_ (by first | (simp; done) | omega | (simp; omega)) _ | refine Below.alloc ?_ (by first | (simp; done) | omega | (simp; omega)) _ | refine bel_drew ?_)
theorem fin_Hor5 : True := trivial
end

section
open Go.RowKit
set_option linter.unusedVariables false

theorem fld2 (x y z : Int) (w : World) : (Instr.field 26 (.agg #[.int .i64 x, .int .i64 y, .int .i64 z]) 2).run Tryd.prog w = .ok (.int .i64 z) w := by kernel_rfl
theorem ris_iff (phi d : Int) : risB phi d = true ↔ 0 < hoR phi (0 - 0) d ∧ ¬ 0 < hoR phi (0 - 180000) d := by
  unfold risB upB
  simp
def stgV (phi d : Int) : Value := if risB phi d = true then .tuple #[.int .i64 (setN phi d : Nat), .bool true] else .tuple #[.int .i64 0, .bool false]
set_option maxRecDepth 100000 in
set_option maxHeartbeats 2000000 in
theorem l06Setting_any (phi d : Int) (p0 : -90000 ≤ phi) (p1 : phi ≤ 90000) (d0 : -90000 ≤ d) (d1 : d ≤ 90000) (w : World) :
    Calls Tryd.prog 47 #[.int .i64 phi, .int .i64 d] w fun e w' => e = .returned (stgV phi d) ∧ Below w.heap.size w w' := by
  unfold stgV
  have V := Lib.hid (fun m m0 m1 w => l06Vector_any phi m 0 d p0 p1 m0 m1 (by omega) (by omega) d0 d1 w)
  have V0 := Lib.hid (fun w => l06Vector_any phi 0 0 d p0 p1 (by omega) (by omega) (by omega) (by omega) d0 d1 w)
  have V1 := Lib.hid (fun w => l06Vector_any phi 180000 0 d p0 p1 (by omega) (by omega) (by omega) (by omega) d0 d1 w)
  have CI : Hid (∀ m : Nat, m < 180000 → (hoR phi (0 - (m : Int)) d ≤ 0 ↔ setN phi d ≤ m)) := Lib.hid (fun m hm => by rw [show (0 : Int) - (m : Int) = -(m : Int) by omega]; exact setN_iff phi d p0 p1 d0 d1 m hm)
  have FD := fld2
  have hc := setN_le phi d
  have RI := ris_iff phi d
  generalize setN phi d = c at *
  generalize hoP phi (0 - 0) d = P0 at *
  generalize hoQ phi (0 - 0) d = Q0 at *
  generalize hoR phi (0 - 0) d = R0 at *
  generalize hoP phi (0 - 180000) d = P1 at *
  generalize hoQ phi (0 - 180000) d = Q1 at *
  generalize hoR phi (0 - 180000) d = R1 at *
  by_cases g0 : R0 ≤ 0
  · rw [if_neg (by rw [RI]; omega)]
    clear RI
    go_enter Tryd.func47, Tryd.ntmps47
    go_wp2_with fail
    refine (V0.out _).mono ?_
    rintro e w1 ⟨rfl, hb⟩
    have hsw1 := hb.size
    try simp at hsw1
    obtain ⟨hcw1, hfw1⟩ := bcell hb
    have HBw1 : Hid (Below w.heap.size w w1) := by
      apply Lib.hid
      refine Below.trans ?_ (hb.mono ?_)
      · repeat (first | exact Below.refl _ _ | refine Below.setCell ?_ (by first | (simp; done) | omega | (simp; omega)) _ | refine Below.alloc ?_ (by first | (simp; done) | omega | (simp; omega)) _)
      · first | (simp; done) | omega | (simp; omega)
    clear hb
    go_wp2_with fail
    refine bodyPost_ret (v := .tuple #[.int .i64 0, .bool false]) (by first | (simp [results, Tryd.results47, go_sem]; done) | (simp [results, Tryd.results47, go_sem, *]; done)) rfl ⟨rfl, ?_⟩
    repeat (first | exact Below.refl _ _ | exact HBw1.out | refine Below.setCell ?_ (by first | (simp; done) | omega | (simp; omega)) _ | refine Below.alloc ?_ (by first | (simp; done) | omega | (simp; omega)) _ | refine bel_drew ?_)
  · by_cases g1 : 0 < R1
    · rw [if_neg (by rw [RI]; omega)]
      clear RI
      go_enter Tryd.func47, Tryd.ntmps47
      go_wp2_with fail
      refine (V0.out _).mono ?_
      rintro e w1 ⟨rfl, hb⟩
      have hsw1 := hb.size
      try simp at hsw1
      obtain ⟨hcw1, hfw1⟩ := bcell hb
      have HBw1 : Hid (Below w.heap.size w w1) := by
        apply Lib.hid
        refine Below.trans ?_ (hb.mono ?_)
        · repeat (first | exact Below.refl _ _ | refine Below.setCell ?_ (by first | (simp; done) | omega | (simp; omega)) _ | refine Below.alloc ?_ (by first | (simp; done) | omega | (simp; omega)) _)
        · first | (simp; done) | omega | (simp; omega)
      clear hb
      go_wp2_with fail
      refine (V1.out _).mono ?_
      rintro e w2 ⟨rfl, hb⟩
      have hsw2 := hb.size
      try simp at hsw2
      obtain ⟨hcw2, hfw2⟩ := bcell hb
      have HBw2 : Hid (Below w.heap.size w w2) := by
        apply Lib.hid
        refine Below.trans ?_ (hb.mono ?_)
        · repeat (first | exact Below.refl _ _ | exact HBw1.out | refine Below.setCell ?_ (by first | (simp; done) | omega | (simp; omega)) _ | refine Below.alloc ?_ (by first | (simp; done) | omega | (simp; omega)) _)
        · first | (simp; done) | omega | (simp; omega)
      clear hb
      first | (have gsw2w1 : w1.heap.size < w2.heap.size := by omega) | skip
      go_wp2_with fail
      refine bodyPost_ret (v := .tuple #[.int .i64 0, .bool false]) (by first | (simp [results, Tryd.results47, go_sem]; done) | (simp [results, Tryd.results47, go_sem, *]; done)) rfl ⟨rfl, ?_⟩
      repeat (first | exact Below.refl _ _ | exact HBw2.out | refine Below.setCell ?_ (by first | (simp; done) | omega | (simp; omega)) _ | refine Below.alloc ?_ (by first | (simp; done) | omega | (simp; omega)) _ | refine bel_drew ?_)
    · rw [if_pos (by rw [RI]; omega)]
      clear RI
      go_enter Tryd.func47, Tryd.ntmps47
      go_wp2_with fail
      refine (V0.out _).mono ?_
      rintro e w1 ⟨rfl, hb⟩
      have hsw1 := hb.size
      try simp at hsw1
      obtain ⟨hcw1, hfw1⟩ := bcell hb
      have HBw1 : Hid (Below w.heap.size w w1) := by
        apply Lib.hid
        refine Below.trans ?_ (hb.mono ?_)
        · repeat (first | exact Below.refl _ _ | refine Below.setCell ?_ (by first | (simp; done) | omega | (simp; omega)) _ | refine Below.alloc ?_ (by first | (simp; done) | omega | (simp; omega)) _)
        · first | (simp; done) | omega | (simp; omega)
      clear hb
      go_wp2_with fail
      refine (V1.out _).mono ?_
      rintro e w2 ⟨rfl, hb⟩
      have hsw2 := hb.size
      try simp at hsw2
      obtain ⟨hcw2, hfw2⟩ := bcell hb
      have HBw2 : Hid (Below w.heap.size w w2) := by
        apply Lib.hid
        refine Below.trans ?_ (hb.mono ?_)
        · repeat (first | exact Below.refl _ _ | exact HBw1.out | refine Below.setCell ?_ (by first | (simp; done) | omega | (simp; omega)) _ | refine Below.alloc ?_ (by first | (simp; done) | omega | (simp; omega)) _)
        · first | (simp; done) | omega | (simp; omega)
      clear hb
      first | (have gsw2w1 : w1.heap.size < w2.heap.size := by omega) | skip
      go_wp2_with fail
      go_loopg [6, 7] 180000 (fun kx s6 s7 wr => ∃ (lo hi : Nat), s6 = .int .i64 lo ∧ s7 = .int .i64 hi ∧ lo ≤ c ∧ c ≤ hi ∧ hi ≤ 180000 ∧ (hi - lo) ≤ kx ∧ Hid (Below w.heap.size w wr))
      case atStart => exact ⟨0, 180000, rfl, rfl, Nat.zero_le _, hc, Nat.le_refl _, by omega, HBw2⟩
      case round =>
        obtain ⟨lo, hi, rfl, rfl, hlc, hch, hin, hg, B⟩ := hrel
        by_cases hlt : lo < hi
        · obtain ⟨mm, hmm⟩ : ∃ mm : Nat, mm = (lo + hi) / 2 := ⟨_, rfl⟩
          have em : ((lo : Int) + (hi : Int)) / 2 = (mm : Int) := by omega
          have hml : mm < 180000 := by omega
          have EM := Lib.hid em
          have hlt' : (lo : Int) < (hi : Int) := by omega
          have CM := CI.out mm hml
          have S := Lib.hid (fun w => V.out (mm : Int) (by omega) (by omega) w)
          generalize hoP phi (0 - (mm : Int)) d = P at *
          generalize hoQ phi (0 - (mm : Int)) d = Q at *
          generalize hoR phi (0 - (mm : Int)) d = R at *
          clear em
          by_cases hp : R ≤ 0
          · have hcm := CM.1 hp
            clear CM
            go_wp2_with fail
            rw [EM.out]
            refine (S.out _).mono ?_
            rintro e w3 ⟨rfl, hb⟩
            have HB3 := Lib.hid (B.out.trans (hb.mono B.out.size))
            clear hb
            go_wp2_with fail
            go_roundg (mm - lo)
            case measure => omega
            case rel => exact ⟨lo, mm, rfl, congrArg (Value.int .i64) (by omega), hlc, hcm, by omega, Nat.le_refl _, HB3⟩
          · have hcm : mm < c := by have := mt CM.2 hp; omega
            clear CM
            go_wp2_with fail
            rw [EM.out]
            refine (S.out _).mono ?_
            rintro e w3 ⟨rfl, hb⟩
            have HB3 := Lib.hid (B.out.trans (hb.mono B.out.size))
            clear hb
            go_wp2_with fail
            go_roundg (hi - (mm + 1))
            case measure => omega
            case rel => exact ⟨mm + 1, hi, congrArg (Value.int .i64) (by omega), rfl, by omega, hch, hin, Nat.le_refl _, HB3⟩
        · obtain rfl : c = lo := by omega
          obtain rfl : c = hi := by omega
          go_wp2_with fail
          refine bodyPost_ret (v := .tuple #[.int .i64 (c : Nat), .bool true]) (by first | (simp [results, Tryd.results47, go_sem]; done) | (simp [results, Tryd.results47, go_sem, *]; done)) rfl ⟨rfl, ?_⟩
          repeat (first | exact Below.refl _ _ | exact B.out | refine Below.setCell ?_ (by first | (simp; done) | omega | (simp; omega)) _ | refine Below.alloc ?_ (by first | (simp; done) | omega | (simp; omega)) _ | refine bel_drew ?_)

set_option maxHeartbeats 1000000 in
theorem specSet_any (s : ByteArray) (a b d : Int) (fb : fits b) (fd : fits d) (w : World) :
    Calls Tryd.prog 20 #[.agg #[.string s, .int .i64 a, .int .i64 b], .int .i64 d] w fun e w' => e = .returned (setV s a b d) ∧ Below w.heap.size w w' := by
  unfold setV
  have CK := Lib.hid (fun (w : World) g c0 c1 c2 => l06Ask_at g 0 s a b 0 0 d w c0 c1 c2)
  by_cases h : askI s a b 0 0 d = 0
  · rw [if_pos h]
    obtain ⟨hs, h0, h1, h2, h3, h4, h5⟩ := (ask_0 _ _ _ _ _ _).1 h
    rw [h] at CK
    have V := Lib.hid (fun w => l06Setting_any b d h2.1 h2.2 h3.1 h3.2 w)
    unfold stgV at V
    clear h hs h0 h1 h2 h3 h4 h5
    generalize setN b d = c at *
    cases hr : risB b d with
    | false =>
      simp only [hr, Bool.false_eq_true, if_false] at V ⊢
      go_enter Tryd.func20, Tryd.ntmps20
      go_wp2_with fail
      refine (CK.out _ _ (by simp) (by simp) (by simp)).mono ?_
      rintro e w' ⟨rfl, rfl⟩
      go_wp2_with fail
      refine (V.out _).mono ?_
      rintro e w1 ⟨rfl, hb⟩
      have hsw1 := hb.size
      try simp at hsw1
      obtain ⟨hcw1, hfw1⟩ := bcell hb
      have HBw1 : Hid (Below w.heap.size w w1) := by
        apply Lib.hid
        refine Below.trans ?_ (hb.mono ?_)
        · repeat (first | exact Below.refl _ _ | refine Below.setCell ?_ (by first | (simp; done) | omega | (simp; omega)) _ | refine Below.alloc ?_ (by first | (simp; done) | omega | (simp; omega)) _)
        · first | (simp; done) | omega | (simp; omega)
      have hzw1 : w.heap.size < w1.heap.size := by have := hb.size; (try simp at this); omega
      clear hb
      go_wp2_with fail
      refine bodyPost_ret (v := .tuple #[.int .i64 0, .int .i64 6]) (by first | (simp [results, Tryd.results20, go_sem]; done) | (simp [results, Tryd.results20, go_sem, *]; done)) rfl ⟨rfl, ?_⟩
      repeat (first | exact Below.refl _ _ | exact HBw1.out | refine Below.setCell ?_ (by first | (simp; done) | omega | (simp; omega)) _ | refine Below.alloc ?_ (by first | (simp; done) | omega | (simp; omega)) _ | refine bel_drew ?_)
    | true =>
      simp only [hr, if_true] at V ⊢
      go_enter Tryd.func20, Tryd.ntmps20
      go_wp2_with fail
      refine (CK.out _ _ (by simp) (by simp) (by simp)).mono ?_
      rintro e w' ⟨rfl, rfl⟩
      go_wp2_with fail
      refine (V.out _).mono ?_
      rintro e w1 ⟨rfl, hb⟩
      have hsw1 := hb.size
      try simp at hsw1
      obtain ⟨hcw1, hfw1⟩ := bcell hb
      have HBw1 : Hid (Below w.heap.size w w1) := by
        apply Lib.hid
        refine Below.trans ?_ (hb.mono ?_)
        · repeat (first | exact Below.refl _ _ | refine Below.setCell ?_ (by first | (simp; done) | omega | (simp; omega)) _ | refine Below.alloc ?_ (by first | (simp; done) | omega | (simp; omega)) _)
        · first | (simp; done) | omega | (simp; omega)
      have hzw1 : w.heap.size < w1.heap.size := by have := hb.size; (try simp at this); omega
      clear hb
      go_wp2_with fail
      refine bodyPost_ret (v := .tuple #[.int .i64 (c : Nat), .int .i64 0]) (by first | (simp [results, Tryd.results20, go_sem]; done) | (simp [results, Tryd.results20, go_sem, *]; done)) rfl ⟨rfl, ?_⟩
      repeat (first | exact Below.refl _ _ | exact HBw1.out | refine Below.setCell ?_ (by first | (simp; done) | omega | (simp; omega)) _ | refine Below.alloc ?_ (by first | (simp; done) | omega | (simp; omega)) _ | refine bel_drew ?_)
  · rw [if_neg h]
    generalize askI s a b 0 0 d = k at *
    have hk : (k == 0) = false := by simpa using h
    clear h
    go_enter Tryd.func20, Tryd.ntmps20
    go_wp2_with fail
    refine (CK.out _ _ (by simp) (by simp) (by simp)).mono ?_
    rintro e w' ⟨rfl, rfl⟩
    go_wp2_with fail
    refine bodyPost_ret (v := .tuple #[.int .i64 0, .int .i64 k]) (by first | (simp [results, Tryd.results20, go_sem]; done) | (simp [results, Tryd.results20, go_sem, *]; done)) rfl ⟨rfl, ?_⟩
    repeat (first | exact Below.refl _ _ | refine Below.setCell ?_ (by first | (simp; done) | omega | (simp; omega)) _ | refine Below.alloc ?_ (by first | (simp; done) | omega | (simp; omega)) _ | refine bel_drew ?_)

/-- What RisingOf returns. -/
def risV (s : ByteArray) (a b r d : Int) : Value := if askI s a b 0 r d = 0 then (if risB b d = true then .tuple #[.int .i64 (nrm (r - (setN b d : Nat))), .int .i64 0] else .tuple #[.int .i64 0, .int .i64 6]) else .tuple #[.int .i64 0, .int .i64 (askI s a b 0 r d)]
theorem risV_form (s : ByteArray) (a b r d : Int) : ∃ x c : Int, risV s a b r d = .tuple #[.int .i64 x, .int .i64 c] := by
  unfold risV
  split
  · split <;> exact ⟨_, _, rfl⟩
  · exact ⟨_, _, rfl⟩
set_option maxHeartbeats 1000000 in
theorem specRis_any (s : ByteArray) (a b r d : Int) (fb : fits b) (fr : fits r) (fd : fits d) (w : World) :
    Calls Tryd.prog 22 #[.agg #[.string s, .int .i64 a, .int .i64 b], .int .i64 r, .int .i64 d] w fun e w' => e = .returned (risV s a b r d) ∧ Below w.heap.size w w' := by
  unfold risV
  have CK := Lib.hid (fun (w : World) g c0 c1 c2 => l06Ask_at g 0 s a b 0 r d w c0 c1 c2)
  by_cases h : askI s a b 0 r d = 0
  · rw [if_pos h]
    obtain ⟨hs, h0, h1, h2, h3, h4, h5⟩ := (ask_0 _ _ _ _ _ _).1 h
    rw [h] at CK
    have V := Lib.hid (fun w => l06Setting_any b d h2.1 h2.2 h3.1 h3.2 w)
    unfold stgV at V
    have hc := setN_le b d
    have N := Lib.hid (fun w => l02Normal_any (r - (setN b d : Nat)) w (by omega) (by omega))
    generalize nrm (r - (setN b d : Nat)) = Z at *
    generalize setN b d = c at *
    clear h hs h0 h2 h3 h4 h5
    cases hr : risB b d with
    | false =>
      simp only [hr, Bool.false_eq_true, if_false] at V ⊢
      go_enter Tryd.func22, Tryd.ntmps22
      go_wp2_with fail
      refine (CK.out _ _ (by simp) (by simp) (by simp)).mono ?_
      rintro e w' ⟨rfl, rfl⟩
      go_wp2_with fail
      refine (V.out _).mono ?_
      rintro e w1 ⟨rfl, hb⟩
      have hsw1 := hb.size
      try simp at hsw1
      obtain ⟨hcw1, hfw1⟩ := bcell hb
      have HBw1 : Hid (Below w.heap.size w w1) := by
        apply Lib.hid
        refine Below.trans ?_ (hb.mono ?_)
        · repeat (first | exact Below.refl _ _ | refine Below.setCell ?_ (by first | (simp; done) | omega | (simp; omega)) _ | refine Below.alloc ?_ (by first | (simp; done) | omega | (simp; omega)) _)
        · first | (simp; done) | omega | (simp; omega)
      have hzw1 : w.heap.size < w1.heap.size := by have := hb.size; (try simp at this); omega
      clear hb
      go_wp2_with fail
      refine bodyPost_ret (v := .tuple #[.int .i64 0, .int .i64 6]) (by first | (simp [results, Tryd.results22, go_sem]; done) | (simp [results, Tryd.results22, go_sem, *]; done)) rfl ⟨rfl, ?_⟩
      repeat (first | exact Below.refl _ _ | exact HBw1.out | refine Below.setCell ?_ (by first | (simp; done) | omega | (simp; omega)) _ | refine Below.alloc ?_ (by first | (simp; done) | omega | (simp; omega)) _ | refine bel_drew ?_)
    | true =>
      simp only [hr, if_true] at V ⊢
      go_enter Tryd.func22, Tryd.ntmps22
      go_wp2_with fail
      refine (CK.out _ _ (by simp) (by simp) (by simp)).mono ?_
      rintro e w' ⟨rfl, rfl⟩
      go_wp2_with fail
      refine (V.out _).mono ?_
      rintro e w1 ⟨rfl, hb⟩
      have hsw1 := hb.size
      try simp at hsw1
      obtain ⟨hcw1, hfw1⟩ := bcell hb
      have HBw1 : Hid (Below w.heap.size w w1) := by
        apply Lib.hid
        refine Below.trans ?_ (hb.mono ?_)
        · repeat (first | exact Below.refl _ _ | refine Below.setCell ?_ (by first | (simp; done) | omega | (simp; omega)) _ | refine Below.alloc ?_ (by first | (simp; done) | omega | (simp; omega)) _)
        · first | (simp; done) | omega | (simp; omega)
      have hzw1 : w.heap.size < w1.heap.size := by have := hb.size; (try simp at this); omega
      clear hb
      go_wp2_with fail
      refine (N.out _).mono ?_
      rintro e w' ⟨rfl, rfl⟩
      go_wp2_with fail
      refine bodyPost_ret (v := .tuple #[.int .i64 Z, .int .i64 0]) (by first | (simp [results, Tryd.results22, go_sem]; done) | (simp [results, Tryd.results22, go_sem, *]; done)) rfl ⟨rfl, ?_⟩
      repeat (first | exact Below.refl _ _ | exact HBw1.out | refine Below.setCell ?_ (by first | (simp; done) | omega | (simp; omega)) _ | refine Below.alloc ?_ (by first | (simp; done) | omega | (simp; omega)) _ | refine bel_drew ?_)
  · rw [if_neg h]
    generalize askI s a b 0 r d = k at *
    have hk : (k == 0) = false := by simpa using h
    clear h
    go_enter Tryd.func22, Tryd.ntmps22
    go_wp2_with fail
    refine (CK.out _ _ (by simp) (by simp) (by simp)).mono ?_
    rintro e w' ⟨rfl, rfl⟩
    go_wp2_with fail
    refine bodyPost_ret (v := .tuple #[.int .i64 0, .int .i64 k]) (by first | (simp [results, Tryd.results22, go_sem]; done) | (simp [results, Tryd.results22, go_sem, *]; done)) rfl ⟨rfl, ?_⟩
    repeat (first | exact Below.refl _ _ | refine Below.setCell ?_ (by first | (simp; done) | omega | (simp; omega)) _ | refine Below.alloc ?_ (by first | (simp; done) | omega | (simp; omega)) _ | refine bel_drew ?_)

set_option maxRecDepth 100000 in
set_option maxHeartbeats 1000000 in
theorem hoAng_ris (s : ByteArray) (a b r d : Int) (hmax : s.size ≤ maxLen) (fb : fits b) (fr : fits r) (fd : fits d) (w : World) (hs : SinesOK w) :
    Calls Tryd.prog 52 #[.agg #[.string s, .int .i64 a, .int .i64 b], .int .i64 r, .int .i64 d, .int .i64 (-1)] w fun e w' => e = .returned (risV s a b r d) ∧ Below w.heap.size w w' := by
  unfold risV
  have CK := Lib.hid (fun w => checkStar_any s a b r d hmax w)
  have V := Lib.hid (fun w hs => implSet_any s a b d hmax w hs)
  have E := Lib.hid hs
  clear hs hmax
  unfold setV at V
  by_cases h : askI s a b 0 r d = 0
  · rw [if_pos h]
    obtain ⟨hs, h0, h1, h2, h3, h4, h5⟩ := (ask_0 _ _ _ _ _ _).1 h
    have h' : askI s a b 0 0 d = 0 := (ask_0 _ _ _ _ _ _).2 ⟨hs, h0, ⟨by omega, by omega⟩, h2, h3, h4, h5⟩
    rw [h] at CK
    simp only [if_pos h'] at V
    have hc := setN_le b d
    have N := Lib.hid (fun w => implNrm_any (r - (setN b d : Nat)) w (by omega) (by omega))
    generalize nrm (r - (setN b d : Nat)) = Z at *
    generalize setN b d = c at *
    clear h h' hs h0 h2 h3 h4 h5
    cases hr : risB b d with
    | false =>
      simp only [hr, Bool.false_eq_true, if_false] at V ⊢
      go_enter Tryd.func52, Tryd.ntmps52
      go_wp2_with fail
      refine (CK.out _).mono ?_
      rintro e w1 ⟨rfl, hb⟩
      have hsw1 := hb.size
      try simp at hsw1
      obtain ⟨hcw1, hfw1⟩ := bcell hb
      have HBw1 : Hid (Below w.heap.size w w1) := by
        apply Lib.hid
        refine Below.trans ?_ (hb.mono ?_)
        · repeat (first | exact Below.refl _ _ | refine Below.setCell ?_ (by first | (simp; done) | omega | (simp; omega)) _ | refine Below.alloc ?_ (by first | (simp; done) | omega | (simp; omega)) _)
        · first | (simp; done) | omega | (simp; omega)
      have hzw1 : w.heap.size < w1.heap.size := by have := hb.size; (try simp at this); omega
      clear hb
      go_wp2_with fail
      refine (V.out _ (E.out.below (by repeat (first | exact Below.refl _ _ | exact HBw1.out | refine Below.setCell ?_ (by first | (simp; done) | omega | (simp; omega)) _ | refine Below.alloc ?_ (by first | (simp; done) | omega | (simp; omega)) _ | refine bel_drew ?_)))).mono ?_
      rintro e w2 ⟨rfl, hb⟩
      have hsw2 := hb.size
      try simp at hsw2
      obtain ⟨hcw2, hfw2⟩ := bcell hb
      have HBw2 : Hid (Below w.heap.size w w2) := by
        apply Lib.hid
        refine Below.trans ?_ (hb.mono ?_)
        · repeat (first | exact Below.refl _ _ | exact HBw1.out | refine Below.setCell ?_ (by first | (simp; done) | omega | (simp; omega)) _ | refine Below.alloc ?_ (by first | (simp; done) | omega | (simp; omega)) _)
        · first | (simp; done) | omega | (simp; omega)
      have hzw2 : w.heap.size < w2.heap.size := by have := hb.size; (try simp at this); omega
      clear hb
      first | (have gsw2w1 : w1.heap.size < w2.heap.size := by omega) | skip
      go_wp2_with fail
      refine bodyPost_ret (v := .tuple #[.int .i64 0, .int .i64 6]) (by first | (simp [results, Tryd.results52, go_sem]; done) | (simp [results, Tryd.results52, go_sem, *]; done)) rfl ⟨rfl, ?_⟩
      repeat (first | exact Below.refl _ _ | exact HBw2.out | refine Below.setCell ?_ (by first | (simp; done) | omega | (simp; omega)) _ | refine Below.alloc ?_ (by first | (simp; done) | omega | (simp; omega)) _ | refine bel_drew ?_)
    | true =>
      simp only [hr, if_true] at V ⊢
      have es : r + -1 * (c : Int) = r - (c : Int) := by omega
      go_enter Tryd.func52, Tryd.ntmps52
      go_wp2_with fail
      refine (CK.out _).mono ?_
      rintro e w1 ⟨rfl, hb⟩
      have hsw1 := hb.size
      try simp at hsw1
      obtain ⟨hcw1, hfw1⟩ := bcell hb
      have HBw1 : Hid (Below w.heap.size w w1) := by
        apply Lib.hid
        refine Below.trans ?_ (hb.mono ?_)
        · repeat (first | exact Below.refl _ _ | refine Below.setCell ?_ (by first | (simp; done) | omega | (simp; omega)) _ | refine Below.alloc ?_ (by first | (simp; done) | omega | (simp; omega)) _)
        · first | (simp; done) | omega | (simp; omega)
      have hzw1 : w.heap.size < w1.heap.size := by have := hb.size; (try simp at this); omega
      clear hb
      go_wp2_with fail
      refine (V.out _ (E.out.below (by repeat (first | exact Below.refl _ _ | exact HBw1.out | refine Below.setCell ?_ (by first | (simp; done) | omega | (simp; omega)) _ | refine Below.alloc ?_ (by first | (simp; done) | omega | (simp; omega)) _ | refine bel_drew ?_)))).mono ?_
      rintro e w2 ⟨rfl, hb⟩
      have hsw2 := hb.size
      try simp at hsw2
      obtain ⟨hcw2, hfw2⟩ := bcell hb
      have HBw2 : Hid (Below w.heap.size w w2) := by
        apply Lib.hid
        refine Below.trans ?_ (hb.mono ?_)
        · repeat (first | exact Below.refl _ _ | exact HBw1.out | refine Below.setCell ?_ (by first | (simp; done) | omega | (simp; omega)) _ | refine Below.alloc ?_ (by first | (simp; done) | omega | (simp; omega)) _)
        · first | (simp; done) | omega | (simp; omega)
      have hzw2 : w.heap.size < w2.heap.size := by have := hb.size; (try simp at this); omega
      clear hb
      first | (have gsw2w1 : w1.heap.size < w2.heap.size := by omega) | skip
      go_wp2_with fail
      try rw [es]
      refine (N.out _).mono ?_
      rintro e w' ⟨rfl, rfl⟩
      go_wp2_with fail
      refine bodyPost_ret (v := .tuple #[.int .i64 Z, .int .i64 0]) (by first | (simp [results, Tryd.results52, go_sem]; done) | (simp [results, Tryd.results52, go_sem, *]; done)) rfl ⟨rfl, ?_⟩
      repeat (first | exact Below.refl _ _ | exact HBw2.out | refine Below.setCell ?_ (by first | (simp; done) | omega | (simp; omega)) _ | refine Below.alloc ?_ (by first | (simp; done) | omega | (simp; omega)) _ | refine bel_drew ?_)
  · rw [if_neg h]
    generalize askI s a b 0 r d = k at *
    have hk : (k == 0) = false := by simpa using h
    clear h V
    go_enter Tryd.func52, Tryd.ntmps52
    go_wp2_with fail
    refine (CK.out _).mono ?_
    rintro e w1 ⟨rfl, hb⟩
    have hsw1 := hb.size
    try simp at hsw1
    obtain ⟨hcw1, hfw1⟩ := bcell hb
    have HBw1 : Hid (Below w.heap.size w w1) := by
      apply Lib.hid
      refine Below.trans ?_ (hb.mono ?_)
      · repeat (first | exact Below.refl _ _ | refine Below.setCell ?_ (by first | (simp; done) | omega | (simp; omega)) _ | refine Below.alloc ?_ (by first | (simp; done) | omega | (simp; omega)) _)
      · first | (simp; done) | omega | (simp; omega)
    have hzw1 : w.heap.size < w1.heap.size := by have := hb.size; (try simp at this); omega
    clear hb
    go_wp2_with fail
    refine bodyPost_ret (v := .tuple #[.int .i64 0, .int .i64 k]) (by first | (simp [results, Tryd.results52, go_sem]; done) | (simp [results, Tryd.results52, go_sem, *]; done)) rfl ⟨rfl, ?_⟩
    repeat (first | exact Below.refl _ _ | exact HBw1.out | refine Below.setCell ?_ (by first | (simp; done) | omega | (simp; omega)) _ | refine Below.alloc ?_ (by first | (simp; done) | omega | (simp; omega)) _ | refine bel_drew ?_)
set_option maxHeartbeats 1000000 in
theorem implRis_any (s : ByteArray) (a b r d : Int) (hmax : s.size ≤ maxLen) (fb : fits b) (fr : fits r) (fd : fits d) (w : World) (hs : SinesOK w) :
    Calls Tryd.prog 23 #[.agg #[.string s, .int .i64 a, .int .i64 b], .int .i64 r, .int .i64 d] w fun e w' => e = .returned (risV s a b r d) ∧ Below w.heap.size w w' := by
  have H := Lib.hid (fun w hs => hoAng_ris s a b r d hmax fb fr fd w hs)
  have E := Lib.hid hs
  clear hs hmax
  obtain ⟨x, c, hz⟩ := risV_form s a b r d
  rw [hz] at H ⊢
  clear hz
  go_enter Tryd.func23, Tryd.ntmps23
  go_wp2_with fail
  refine (H.out _ (E.out.below (by repeat (first | exact Below.refl _ _ | refine Below.setCell ?_ (by first | (simp; done) | omega | (simp; omega)) _ | refine Below.alloc ?_ (by first | (simp; done) | omega | (simp; omega)) _ | refine bel_drew ?_)))).mono ?_
  rintro e w1 ⟨rfl, hb⟩
  have hsw1 := hb.size
  try simp at hsw1
  obtain ⟨hcw1, hfw1⟩ := bcell hb
  have HBw1 : Hid (Below w.heap.size w w1) := by
    apply Lib.hid
    refine Below.trans ?_ (hb.mono ?_)
    · repeat (first | exact Below.refl _ _ | refine Below.setCell ?_ (by first | (simp; done) | omega | (simp; omega)) _ | refine Below.alloc ?_ (by first | (simp; done) | omega | (simp; omega)) _)
    · first | (simp; done) | omega | (simp; omega)
  have hzw1 : w.heap.size < w1.heap.size := by have := hb.size; (try simp at this); omega
  clear hb
  go_wp2_with fail
  refine bodyPost_ret (v := .tuple #[.int .i64 x, .int .i64 c]) (by first | (simp [results, Tryd.results23, go_sem]; done) | (simp [results, Tryd.results23, go_sem, *]; done)) rfl ⟨rfl, ?_⟩
  repeat (first | exact Below.refl _ _ | exact HBw1.out | refine Below.setCell ?_ (by first | (simp; done) | omega | (simp; omega)) _ | refine Below.alloc ?_ (by first | (simp; done) | omega | (simp; omega)) _ | refine bel_drew ?_)

/-- What SettingOf returns. -/
def stoV (s : ByteArray) (a b r d : Int) : Value := if askI s a b 0 r d = 0 then (if risB b d = true then .tuple #[.int .i64 (nrm (r + (setN b d : Nat))), .int .i64 0] else .tuple #[.int .i64 0, .int .i64 6]) else .tuple #[.int .i64 0, .int .i64 (askI s a b 0 r d)]
theorem stoV_form (s : ByteArray) (a b r d : Int) : ∃ x c : Int, stoV s a b r d = .tuple #[.int .i64 x, .int .i64 c] := by
  unfold stoV
  split
  · split <;> exact ⟨_, _, rfl⟩
  · exact ⟨_, _, rfl⟩
set_option maxHeartbeats 1000000 in
theorem specSto_any (s : ByteArray) (a b r d : Int) (fb : fits b) (fr : fits r) (fd : fits d) (w : World) :
    Calls Tryd.prog 24 #[.agg #[.string s, .int .i64 a, .int .i64 b], .int .i64 r, .int .i64 d] w fun e w' => e = .returned (stoV s a b r d) ∧ Below w.heap.size w w' := by
  unfold stoV
  have CK := Lib.hid (fun (w : World) g c0 c1 c2 => l06Ask_at g 0 s a b 0 r d w c0 c1 c2)
  by_cases h : askI s a b 0 r d = 0
  · rw [if_pos h]
    obtain ⟨hs, h0, h1, h2, h3, h4, h5⟩ := (ask_0 _ _ _ _ _ _).1 h
    rw [h] at CK
    have V := Lib.hid (fun w => l06Setting_any b d h2.1 h2.2 h3.1 h3.2 w)
    unfold stgV at V
    have hc := setN_le b d
    have N := Lib.hid (fun w => l02Normal_any (r + (setN b d : Nat)) w (by omega) (by omega))
    generalize nrm (r + (setN b d : Nat)) = Z at *
    generalize setN b d = c at *
    clear h hs h0 h2 h3 h4 h5
    cases hr : risB b d with
    | false =>
      simp only [hr, Bool.false_eq_true, if_false] at V ⊢
      go_enter Tryd.func24, Tryd.ntmps24
      go_wp2_with fail
      refine (CK.out _ _ (by simp) (by simp) (by simp)).mono ?_
      rintro e w' ⟨rfl, rfl⟩
      go_wp2_with fail
      refine (V.out _).mono ?_
      rintro e w1 ⟨rfl, hb⟩
      have hsw1 := hb.size
      try simp at hsw1
      obtain ⟨hcw1, hfw1⟩ := bcell hb
      have HBw1 : Hid (Below w.heap.size w w1) := by
        apply Lib.hid
        refine Below.trans ?_ (hb.mono ?_)
        · repeat (first | exact Below.refl _ _ | refine Below.setCell ?_ (by first | (simp; done) | omega | (simp; omega)) _ | refine Below.alloc ?_ (by first | (simp; done) | omega | (simp; omega)) _)
        · first | (simp; done) | omega | (simp; omega)
      have hzw1 : w.heap.size < w1.heap.size := by have := hb.size; (try simp at this); omega
      clear hb
      go_wp2_with fail
      refine bodyPost_ret (v := .tuple #[.int .i64 0, .int .i64 6]) (by first | (simp [results, Tryd.results24, go_sem]; done) | (simp [results, Tryd.results24, go_sem, *]; done)) rfl ⟨rfl, ?_⟩
      repeat (first | exact Below.refl _ _ | exact HBw1.out | refine Below.setCell ?_ (by first | (simp; done) | omega | (simp; omega)) _ | refine Below.alloc ?_ (by first | (simp; done) | omega | (simp; omega)) _ | refine bel_drew ?_)
    | true =>
      simp only [hr, if_true] at V ⊢
      go_enter Tryd.func24, Tryd.ntmps24
      go_wp2_with fail
      refine (CK.out _ _ (by simp) (by simp) (by simp)).mono ?_
      rintro e w' ⟨rfl, rfl⟩
      go_wp2_with fail
      refine (V.out _).mono ?_
      rintro e w1 ⟨rfl, hb⟩
      have hsw1 := hb.size
      try simp at hsw1
      obtain ⟨hcw1, hfw1⟩ := bcell hb
      have HBw1 : Hid (Below w.heap.size w w1) := by
        apply Lib.hid
        refine Below.trans ?_ (hb.mono ?_)
        · repeat (first | exact Below.refl _ _ | refine Below.setCell ?_ (by first | (simp; done) | omega | (simp; omega)) _ | refine Below.alloc ?_ (by first | (simp; done) | omega | (simp; omega)) _)
        · first | (simp; done) | omega | (simp; omega)
      have hzw1 : w.heap.size < w1.heap.size := by have := hb.size; (try simp at this); omega
      clear hb
      go_wp2_with fail
      refine (N.out _).mono ?_
      rintro e w' ⟨rfl, rfl⟩
      go_wp2_with fail
      refine bodyPost_ret (v := .tuple #[.int .i64 Z, .int .i64 0]) (by first | (simp [results, Tryd.results24, go_sem]; done) | (simp [results, Tryd.results24, go_sem, *]; done)) rfl ⟨rfl, ?_⟩
      repeat (first | exact Below.refl _ _ | exact HBw1.out | refine Below.setCell ?_ (by first | (simp; done) | omega | (simp; omega)) _ | refine Below.alloc ?_ (by first | (simp; done) | omega | (simp; omega)) _ | refine bel_drew ?_)
  · rw [if_neg h]
    generalize askI s a b 0 r d = k at *
    have hk : (k == 0) = false := by simpa using h
    clear h
    go_enter Tryd.func24, Tryd.ntmps24
    go_wp2_with fail
    refine (CK.out _ _ (by simp) (by simp) (by simp)).mono ?_
    rintro e w' ⟨rfl, rfl⟩
    go_wp2_with fail
    refine bodyPost_ret (v := .tuple #[.int .i64 0, .int .i64 k]) (by first | (simp [results, Tryd.results24, go_sem]; done) | (simp [results, Tryd.results24, go_sem, *]; done)) rfl ⟨rfl, ?_⟩
    repeat (first | exact Below.refl _ _ | refine Below.setCell ?_ (by first | (simp; done) | omega | (simp; omega)) _ | refine Below.alloc ?_ (by first | (simp; done) | omega | (simp; omega)) _ | refine bel_drew ?_)

set_option maxRecDepth 100000 in
set_option maxHeartbeats 1000000 in
theorem hoAng_sto (s : ByteArray) (a b r d : Int) (hmax : s.size ≤ maxLen) (fb : fits b) (fr : fits r) (fd : fits d) (w : World) (hs : SinesOK w) :
    Calls Tryd.prog 52 #[.agg #[.string s, .int .i64 a, .int .i64 b], .int .i64 r, .int .i64 d, .int .i64 (1)] w fun e w' => e = .returned (stoV s a b r d) ∧ Below w.heap.size w w' := by
  unfold stoV
  have CK := Lib.hid (fun w => checkStar_any s a b r d hmax w)
  have V := Lib.hid (fun w hs => implSet_any s a b d hmax w hs)
  have E := Lib.hid hs
  clear hs hmax
  unfold setV at V
  by_cases h : askI s a b 0 r d = 0
  · rw [if_pos h]
    obtain ⟨hs, h0, h1, h2, h3, h4, h5⟩ := (ask_0 _ _ _ _ _ _).1 h
    have h' : askI s a b 0 0 d = 0 := (ask_0 _ _ _ _ _ _).2 ⟨hs, h0, ⟨by omega, by omega⟩, h2, h3, h4, h5⟩
    rw [h] at CK
    simp only [if_pos h'] at V
    have hc := setN_le b d
    have N := Lib.hid (fun w => implNrm_any (r + (setN b d : Nat)) w (by omega) (by omega))
    generalize nrm (r + (setN b d : Nat)) = Z at *
    generalize setN b d = c at *
    clear h h' hs h0 h2 h3 h4 h5
    cases hr : risB b d with
    | false =>
      simp only [hr, Bool.false_eq_true, if_false] at V ⊢
      go_enter Tryd.func52, Tryd.ntmps52
      go_wp2_with fail
      refine (CK.out _).mono ?_
      rintro e w1 ⟨rfl, hb⟩
      have hsw1 := hb.size
      try simp at hsw1
      obtain ⟨hcw1, hfw1⟩ := bcell hb
      have HBw1 : Hid (Below w.heap.size w w1) := by
        apply Lib.hid
        refine Below.trans ?_ (hb.mono ?_)
        · repeat (first | exact Below.refl _ _ | refine Below.setCell ?_ (by first | (simp; done) | omega | (simp; omega)) _ | refine Below.alloc ?_ (by first | (simp; done) | omega | (simp; omega)) _)
        · first | (simp; done) | omega | (simp; omega)
      have hzw1 : w.heap.size < w1.heap.size := by have := hb.size; (try simp at this); omega
      clear hb
      go_wp2_with fail
      refine (V.out _ (E.out.below (by repeat (first | exact Below.refl _ _ | exact HBw1.out | refine Below.setCell ?_ (by first | (simp; done) | omega | (simp; omega)) _ | refine Below.alloc ?_ (by first | (simp; done) | omega | (simp; omega)) _ | refine bel_drew ?_)))).mono ?_
      rintro e w2 ⟨rfl, hb⟩
      have hsw2 := hb.size
      try simp at hsw2
      obtain ⟨hcw2, hfw2⟩ := bcell hb
      have HBw2 : Hid (Below w.heap.size w w2) := by
        apply Lib.hid
        refine Below.trans ?_ (hb.mono ?_)
        · repeat (first | exact Below.refl _ _ | exact HBw1.out | refine Below.setCell ?_ (by first | (simp; done) | omega | (simp; omega)) _ | refine Below.alloc ?_ (by first | (simp; done) | omega | (simp; omega)) _)
        · first | (simp; done) | omega | (simp; omega)
      have hzw2 : w.heap.size < w2.heap.size := by have := hb.size; (try simp at this); omega
      clear hb
      first | (have gsw2w1 : w1.heap.size < w2.heap.size := by omega) | skip
      go_wp2_with fail
      refine bodyPost_ret (v := .tuple #[.int .i64 0, .int .i64 6]) (by first | (simp [results, Tryd.results52, go_sem]; done) | (simp [results, Tryd.results52, go_sem, *]; done)) rfl ⟨rfl, ?_⟩
      repeat (first | exact Below.refl _ _ | exact HBw2.out | refine Below.setCell ?_ (by first | (simp; done) | omega | (simp; omega)) _ | refine Below.alloc ?_ (by first | (simp; done) | omega | (simp; omega)) _ | refine bel_drew ?_)
    | true =>
      simp only [hr, if_true] at V ⊢
      have es : r + 1 * (c : Int) = r + (c : Int) := by omega
      go_enter Tryd.func52, Tryd.ntmps52
      go_wp2_with fail
      refine (CK.out _).mono ?_
      rintro e w1 ⟨rfl, hb⟩
      have hsw1 := hb.size
      try simp at hsw1
      obtain ⟨hcw1, hfw1⟩ := bcell hb
      have HBw1 : Hid (Below w.heap.size w w1) := by
        apply Lib.hid
        refine Below.trans ?_ (hb.mono ?_)
        · repeat (first | exact Below.refl _ _ | refine Below.setCell ?_ (by first | (simp; done) | omega | (simp; omega)) _ | refine Below.alloc ?_ (by first | (simp; done) | omega | (simp; omega)) _)
        · first | (simp; done) | omega | (simp; omega)
      have hzw1 : w.heap.size < w1.heap.size := by have := hb.size; (try simp at this); omega
      clear hb
      go_wp2_with fail
      refine (V.out _ (E.out.below (by repeat (first | exact Below.refl _ _ | exact HBw1.out | refine Below.setCell ?_ (by first | (simp; done) | omega | (simp; omega)) _ | refine Below.alloc ?_ (by first | (simp; done) | omega | (simp; omega)) _ | refine bel_drew ?_)))).mono ?_
      rintro e w2 ⟨rfl, hb⟩
      have hsw2 := hb.size
      try simp at hsw2
      obtain ⟨hcw2, hfw2⟩ := bcell hb
      have HBw2 : Hid (Below w.heap.size w w2) := by
        apply Lib.hid
        refine Below.trans ?_ (hb.mono ?_)
        · repeat (first | exact Below.refl _ _ | exact HBw1.out | refine Below.setCell ?_ (by first | (simp; done) | omega | (simp; omega)) _ | refine Below.alloc ?_ (by first | (simp; done) | omega | (simp; omega)) _)
        · first | (simp; done) | omega | (simp; omega)
      have hzw2 : w.heap.size < w2.heap.size := by have := hb.size; (try simp at this); omega
      clear hb
      first | (have gsw2w1 : w1.heap.size < w2.heap.size := by omega) | skip
      go_wp2_with fail
      try rw [es]
      refine (N.out _).mono ?_
      rintro e w' ⟨rfl, rfl⟩
      go_wp2_with fail
      refine bodyPost_ret (v := .tuple #[.int .i64 Z, .int .i64 0]) (by first | (simp [results, Tryd.results52, go_sem]; done) | (simp [results, Tryd.results52, go_sem, *]; done)) rfl ⟨rfl, ?_⟩
      repeat (first | exact Below.refl _ _ | exact HBw2.out | refine Below.setCell ?_ (by first | (simp; done) | omega | (simp; omega)) _ | refine Below.alloc ?_ (by first | (simp; done) | omega | (simp; omega)) _ | refine bel_drew ?_)
  · rw [if_neg h]
    generalize askI s a b 0 r d = k at *
    have hk : (k == 0) = false := by simpa using h
    clear h V
    go_enter Tryd.func52, Tryd.ntmps52
    go_wp2_with fail
    refine (CK.out _).mono ?_
    rintro e w1 ⟨rfl, hb⟩
    have hsw1 := hb.size
    try simp at hsw1
    obtain ⟨hcw1, hfw1⟩ := bcell hb
    have HBw1 : Hid (Below w.heap.size w w1) := by
      apply Lib.hid
      refine Below.trans ?_ (hb.mono ?_)
      · repeat (first | exact Below.refl _ _ | refine Below.setCell ?_ (by first | (simp; done) | omega | (simp; omega)) _ | refine Below.alloc ?_ (by first | (simp; done) | omega | (simp; omega)) _)
      · first | (simp; done) | omega | (simp; omega)
    have hzw1 : w.heap.size < w1.heap.size := by have := hb.size; (try simp at this); omega
    clear hb
    go_wp2_with fail
    refine bodyPost_ret (v := .tuple #[.int .i64 0, .int .i64 k]) (by first | (simp [results, Tryd.results52, go_sem]; done) | (simp [results, Tryd.results52, go_sem, *]; done)) rfl ⟨rfl, ?_⟩
    repeat (first | exact Below.refl _ _ | exact HBw1.out | refine Below.setCell ?_ (by first | (simp; done) | omega | (simp; omega)) _ | refine Below.alloc ?_ (by first | (simp; done) | omega | (simp; omega)) _ | refine bel_drew ?_)
set_option maxHeartbeats 1000000 in
theorem implSto_any (s : ByteArray) (a b r d : Int) (hmax : s.size ≤ maxLen) (fb : fits b) (fr : fits r) (fd : fits d) (w : World) (hs : SinesOK w) :
    Calls Tryd.prog 25 #[.agg #[.string s, .int .i64 a, .int .i64 b], .int .i64 r, .int .i64 d] w fun e w' => e = .returned (stoV s a b r d) ∧ Below w.heap.size w w' := by
  have H := Lib.hid (fun w hs => hoAng_sto s a b r d hmax fb fr fd w hs)
  have E := Lib.hid hs
  clear hs hmax
  obtain ⟨x, c, hz⟩ := stoV_form s a b r d
  rw [hz] at H ⊢
  clear hz
  go_enter Tryd.func25, Tryd.ntmps25
  go_wp2_with fail
  refine (H.out _ (E.out.below (by repeat (first | exact Below.refl _ _ | refine Below.setCell ?_ (by first | (simp; done) | omega | (simp; omega)) _ | refine Below.alloc ?_ (by first | (simp; done) | omega | (simp; omega)) _ | refine bel_drew ?_)))).mono ?_
  rintro e w1 ⟨rfl, hb⟩
  have hsw1 := hb.size
  try simp at hsw1
  obtain ⟨hcw1, hfw1⟩ := bcell hb
  have HBw1 : Hid (Below w.heap.size w w1) := by
    apply Lib.hid
    refine Below.trans ?_ (hb.mono ?_)
    · repeat (first | exact Below.refl _ _ | refine Below.setCell ?_ (by first | (simp; done) | omega | (simp; omega)) _ | refine Below.alloc ?_ (by first | (simp; done) | omega | (simp; omega)) _)
    · first | (simp; done) | omega | (simp; omega)
  have hzw1 : w.heap.size < w1.heap.size := by have := hb.size; (try simp at this); omega
  clear hb
  go_wp2_with fail
  refine bodyPost_ret (v := .tuple #[.int .i64 x, .int .i64 c]) (by first | (simp [results, Tryd.results25, go_sem]; done) | (simp [results, Tryd.results25, go_sem, *]; done)) rfl ⟨rfl, ?_⟩
  repeat (first | exact Below.refl _ _ | exact HBw1.out | refine Below.setCell ?_ (by first | (simp; done) | omega | (simp; omega)) _ | refine Below.alloc ?_ (by first | (simp; done) | omega | (simp; omega)) _ | refine bel_drew ?_)
theorem fin_Hor6 : True := trivial
end
end Go.Proofs.YtoellkbmhpekdaaDoor
