/-
  The direction of a star over a site: the contracts of HorizontalVector (package impl) and of Horizontal (packages impl and spec).
-/
import Derived.Test.YtoellkbmhpekdaaDoorHor2
import Derived.Test.YtoellkbmhpekdaaDoorAng
import Derived.Test.YtoellkbmhpekdaaDoorSAng2
namespace Go.Proofs.YtoellkbmhpekdaaDoor
open Go.RowKit
set_option linter.unusedVariables false

set_option maxRecDepth 100000 in
set_option maxHeartbeats 1000000 in
theorem implHV_any (s : ByteArray) (a b sid r d : Int) (hmax : s.size ≤ maxLen) (fb : fits b) (fs : fits sid) (fr : fits r) (fd : fits d) (w : World) (hs : SinesOK w) :
    Calls Tryd.prog 14 #[.agg #[.string s, .int .i64 a, .int .i64 b], .int .i64 sid, .int .i64 r, .int .i64 d] w fun e w' => e = .returned (horV s a b sid r d) ∧ Below w.heap.size w w' := by
  unfold horV
  have CK := Lib.hid (fun w => check_any s a b sid r d hmax w)
  have E := Lib.hid hs
  clear hs hmax
  by_cases h : askI s a b sid r d = 0
  · rw [if_pos h]
    obtain ⟨hs, h0, h1, h2, h3, h4, h5⟩ := (ask_0 _ _ _ _ _ _).1 h
    rw [h] at CK
    have V := Lib.hid (fun w hs => horiz_any s a b sid r d h2.1 h2.2 h0.1 (by omega) h1.1 (by omega) h3.1 h3.2 w hs)
    clear h hs h5
    generalize hoP b (r - sid) d = P at *
    generalize hoQ b (r - sid) d = Q at *
    generalize hoR b (r - sid) d = R at *
    go_enter Tryd.func14, Tryd.ntmps14
    go_wp2_with fail
    refine (CK.out _).mono ?_
    rintro e w1 ⟨rfl, hb⟩
    have hsw1 := hb.size
    try simp at hsw1
    obtain ⟨hcw1, hfw1⟩ := bcell hb
    have HBw1 : Hid (Below w.heap.size w w1) := by
      apply Lib.hid
      refine Below.trans ?_ (hb.mono ?_)
      · repeat (first | exact Below.refl _ _ | refine Below.setCell ?_ (by first | (simp; done) | omega | (simp; omega)) _ | refine Below.alloc ?_ (by first | (simp; done) | omega | (simp; omega)) _)
      · first | (simp; done) | omega | (simp; omega)
    have hzw1 : w.heap.size + 3 < w1.heap.size := by have := hb.size; (try simp at this); omega
    have hyw1 : w.heap.size + 2 < w1.heap.size := by have := hb.size; (try simp at this); omega
    have hxw1 : w.heap.size + 1 < w1.heap.size := by have := hb.size; (try simp at this); omega
    have huw1 : w.heap.size < w1.heap.size := by have := hb.size; (try simp at this); omega
    clear hb
    go_wp2_with fail
    refine (V.out _ (E.out.below (by repeat (first | exact Below.refl _ _ | exact HBw1.out | refine Below.setCell ?_ (by first | (simp; done) | omega | (simp; omega)) _ | refine Below.alloc ?_ (by first | (simp; done) | omega | (simp; omega)) _ | refine bel_drew ?_)))).mono ?_
    rintro e w2 ⟨rfl, hb⟩
    have hsw2 := hb.size
    try simp at hsw2
    obtain ⟨hcw2, hfw2⟩ := bcell hb
    have HBw2 : Hid (Below w.heap.size w w2) := by
      apply Lib.hid
      refine Below.trans ?_ (hb.mono ?_)
      · repeat (first | exact Below.refl _ _ | exact HBw1.out | refine Below.setCell ?_ (by first | (simp; done) | omega | (simp; omega)) _ | refine Below.alloc ?_ (by first | (simp; done) | omega | (simp; omega)) _)
      · first | (simp; done) | omega | (simp; omega)
    have hzw2 : w.heap.size + 3 < w2.heap.size := by have := hb.size; (try simp at this); omega
    have hyw2 : w.heap.size + 2 < w2.heap.size := by have := hb.size; (try simp at this); omega
    have hxw2 : w.heap.size + 1 < w2.heap.size := by have := hb.size; (try simp at this); omega
    have huw2 : w.heap.size < w2.heap.size := by have := hb.size; (try simp at this); omega
    clear hb
    first | (have gsw2w1 : w1.heap.size < w2.heap.size := by omega) | skip
    go_wp2_with fail
    have z0 : w2.cell? ⟨w.heap.size + 1, 0, none⟩ = some (.int .i64 0) := by rw [hcw2 _ _ (by omega), hcw1 _ _ (by first | (simp; done) | (simp; omega)), World.cell?_alloc_lt _ _ _ (by first | (simp; done) | (simp; omega)), World.cell?_alloc_lt _ _ _ (by first | (simp; done) | (simp; omega))]; simp
    have z1 : w2.cell? ⟨w.heap.size + 1, 1, none⟩ = some (.int .i64 0) := by rw [hcw2 _ _ (by omega), hcw1 _ _ (by first | (simp; done) | (simp; omega)), World.cell?_alloc_lt _ _ _ (by first | (simp; done) | (simp; omega)), World.cell?_alloc_lt _ _ _ (by first | (simp; done) | (simp; omega))]; simp
    have z2 : w2.cell? ⟨w.heap.size + 1, 2, none⟩ = some (.int .i64 0) := by rw [hcw2 _ _ (by omega), hcw1 _ _ (by first | (simp; done) | (simp; omega)), World.cell?_alloc_lt _ _ _ (by first | (simp; done) | (simp; omega)), World.cell?_alloc_lt _ _ _ (by first | (simp; done) | (simp; omega))]; simp
    clear hcw1 hcw2
    refine bodyPost_ret (v := .tuple #[.agg #[.int .i64 P, .int .i64 Q, .int .i64 R], .int .i64 0]) (by first | (simp [results, Tryd.results14, go_sem]; done) | (simp [results, Tryd.results14, go_sem, z0, z1, z2, *]; done)) rfl ⟨rfl, ?_⟩
    repeat (first | exact Below.refl _ _ | exact HBw2.out | refine Below.setCell ?_ (by first | (simp; done) | omega | (simp; omega)) _ | refine Below.alloc ?_ (by first | (simp; done) | omega | (simp; omega)) _ | refine bel_drew ?_)
  · rw [if_neg h]
    generalize askI s a b sid r d = k at *
    have hk : (k == 0) = false := by simpa using h
    clear h
    go_enter Tryd.func14, Tryd.ntmps14
    go_wp2_with fail
    refine (CK.out _).mono ?_
    rintro e w1 ⟨rfl, hb⟩
    have hsw1 := hb.size
    try simp at hsw1
    obtain ⟨hcw1, hfw1⟩ := bcell hb
    have HBw1 : Hid (Below w.heap.size w w1) := by
      apply Lib.hid
      refine Below.trans ?_ (hb.mono ?_)
      · repeat (first | exact Below.refl _ _ | refine Below.setCell ?_ (by first | (simp; done) | omega | (simp; omega)) _ | refine Below.alloc ?_ (by first | (simp; done) | omega | (simp; omega)) _)
      · first | (simp; done) | omega | (simp; omega)
    have hzw1 : w.heap.size + 3 < w1.heap.size := by have := hb.size; (try simp at this); omega
    have hyw1 : w.heap.size + 2 < w1.heap.size := by have := hb.size; (try simp at this); omega
    have hxw1 : w.heap.size + 1 < w1.heap.size := by have := hb.size; (try simp at this); omega
    have huw1 : w.heap.size < w1.heap.size := by have := hb.size; (try simp at this); omega
    clear hb
    go_wp2_with fail
    have z0 : w1.cell? ⟨w.heap.size + 1, 0, none⟩ = some (.int .i64 0) := by rw [hcw1 _ _ (by first | (simp; done) | (simp; omega)), World.cell?_alloc_lt _ _ _ (by first | (simp; done) | (simp; omega)), World.cell?_alloc_lt _ _ _ (by first | (simp; done) | (simp; omega))]; simp
    have z1 : w1.cell? ⟨w.heap.size + 1, 1, none⟩ = some (.int .i64 0) := by rw [hcw1 _ _ (by first | (simp; done) | (simp; omega)), World.cell?_alloc_lt _ _ _ (by first | (simp; done) | (simp; omega)), World.cell?_alloc_lt _ _ _ (by first | (simp; done) | (simp; omega))]; simp
    have z2 : w1.cell? ⟨w.heap.size + 1, 2, none⟩ = some (.int .i64 0) := by rw [hcw1 _ _ (by first | (simp; done) | (simp; omega)), World.cell?_alloc_lt _ _ _ (by first | (simp; done) | (simp; omega)), World.cell?_alloc_lt _ _ _ (by first | (simp; done) | (simp; omega))]; simp
    clear hcw1
    refine bodyPost_ret (v := .tuple #[.agg #[.int .i64 0, .int .i64 0, .int .i64 0], .int .i64 k]) (by first | (simp [results, Tryd.results14, go_sem]; done) | (simp [results, Tryd.results14, go_sem, z0, z1, z2, *]; done)) rfl ⟨rfl, ?_⟩
    repeat (first | exact Below.refl _ _ | exact HBw1.out | refine Below.setCell ?_ (by first | (simp; done) | omega | (simp; omega)) _ | refine Below.alloc ?_ (by first | (simp; done) | omega | (simp; omega)) _ | refine bel_drew ?_)

/-- What Horizontal returns. -/
def hzV (s : ByteArray) (a b sid r d : Int) : Value := if askI s a b sid r d = 0 then angV (hoP b (r - sid) d) (hoQ b (r - sid) d) (hoR b (r - sid) d) else .tuple #[.int .i64 0, .int .i64 0, .int .i64 (askI s a b sid r d)]
theorem hzV_form (s : ByteArray) (a b sid r d : Int) : ∃ x y c : Int, hzV s a b sid r d = .tuple #[.int .i64 x, .int .i64 y, .int .i64 c] := by
  unfold hzV
  split
  · exact angV_form _ _ _
  · exact ⟨_, _, _, rfl⟩

set_option maxHeartbeats 1000000 in
theorem implHz_any (s : ByteArray) (a b sid r d : Int) (hmax : s.size ≤ maxLen) (fb : fits b) (fs : fits sid) (fr : fits r) (fd : fits d) (w : World) (hs : SinesOK w) :
    Calls Tryd.prog 17 #[.agg #[.string s, .int .i64 a, .int .i64 b], .int .i64 sid, .int .i64 r, .int .i64 d] w fun e w' => e = .returned (hzV s a b sid r d) ∧ Below w.heap.size w w' := by
  unfold hzV
  have H := Lib.hid (fun w hs => implHV_any s a b sid r d hmax fb fs fr fd w hs)
  have G := Lib.hid (fun w hs => implAng_any (hoP b (r - sid) d) (hoQ b (r - sid) d) (hoR b (r - sid) d) w hs)
  have E := Lib.hid hs
  clear hs hmax
  unfold horV at H
  by_cases h : askI s a b sid r d = 0
  · rw [if_pos h]
    simp only [if_pos h] at H
    obtain ⟨u, v, c, hz⟩ := angV_form (hoP b (r - sid) d) (hoQ b (r - sid) d) (hoR b (r - sid) d)
    rw [hz] at G ⊢
    clear hz h
    generalize hoP b (r - sid) d = P at *
    generalize hoQ b (r - sid) d = Q at *
    generalize hoR b (r - sid) d = R at *
    clear fb fs fr fd
    go_enter Tryd.func17, Tryd.ntmps17
    go_wp2_with fail
    refine (H.out _ (E.out.below (by repeat (first | exact Below.refl _ _ | refine Below.setCell ?_ (by first | (simp; done) | omega | (simp; omega)) _ | refine Below.alloc ?_ (by first | (simp; done) | omega | (simp; omega)) _ | refine bel_drew ?_)))).mono ?_
    rintro e w1 ⟨rfl, hb⟩
    have hsw1 := hb.size
    try simp at hsw1
    obtain ⟨hcw1, hfw1⟩ := bcell hb
    have HBw1 : Hid (Below w.heap.size w w1) := by
      apply Lib.hid
      refine Below.trans ?_ (hb.mono ?_)
      · repeat (first | exact Below.refl _ _ | refine Below.setCell ?_ (by first | (simp; done) | omega | (simp; omega)) _ | refine Below.alloc ?_ (by first | (simp; done) | omega | (simp; omega)) _)
      · first | (simp; done) | omega | (simp; omega)
    have hzw1 : w.heap.size < w1.heap.size := by have := hb.size; (try simp at this); omega
    clear hb
    go_wp2_with fail
    refine (G.out _ (E.out.below (by repeat (first | exact Below.refl _ _ | exact HBw1.out | refine Below.setCell ?_ (by first | (simp; done) | omega | (simp; omega)) _ | refine Below.alloc ?_ (by first | (simp; done) | omega | (simp; omega)) _ | refine bel_drew ?_)))).mono ?_
    rintro e w2 ⟨rfl, hb⟩
    have hsw2 := hb.size
    try simp at hsw2
    obtain ⟨hcw2, hfw2⟩ := bcell hb
    have HBw2 : Hid (Below w.heap.size w w2) := by
      apply Lib.hid
      refine Below.trans ?_ (hb.mono ?_)
      · repeat (first | exact Below.refl _ _ | exact HBw1.out | refine Below.setCell ?_ (by first | (simp; done) | omega | (simp; omega)) _ | refine Below.alloc ?_ (by first | (simp; done) | omega | (simp; omega)) _)
      · first | (simp; done) | omega | (simp; omega)
    have hzw2 : w.heap.size < w2.heap.size := by have := hb.size; (try simp at this); omega
    clear hb
    first | (have gsw2w1 : w1.heap.size < w2.heap.size := by omega) | skip
    go_wp2_with fail
    refine bodyPost_ret (v := .tuple #[.int .i64 u, .int .i64 v, .int .i64 c]) (by first | (simp [results, Tryd.results17, go_sem]; done) | (simp [results, Tryd.results17, go_sem, *]; done)) rfl ⟨rfl, ?_⟩
    repeat (first | exact Below.refl _ _ | exact HBw2.out | refine Below.setCell ?_ (by first | (simp; done) | omega | (simp; omega)) _ | refine Below.alloc ?_ (by first | (simp; done) | omega | (simp; omega)) _ | refine bel_drew ?_)
  · rw [if_neg h]
    simp only [if_neg h] at H
    generalize askI s a b sid r d = k at *
    have hk : (k == 0) = false := by simpa using h
    clear h G fb fs fr fd
    go_enter Tryd.func17, Tryd.ntmps17
    go_wp2_with fail
    refine (H.out _ (E.out.below (by repeat (first | exact Below.refl _ _ | refine Below.setCell ?_ (by first | (simp; done) | omega | (simp; omega)) _ | refine Below.alloc ?_ (by first | (simp; done) | omega | (simp; omega)) _ | refine bel_drew ?_)))).mono ?_
    rintro e w1 ⟨rfl, hb⟩
    have hsw1 := hb.size
    try simp at hsw1
    obtain ⟨hcw1, hfw1⟩ := bcell hb
    have HBw1 : Hid (Below w.heap.size w w1) := by
      apply Lib.hid
      refine Below.trans ?_ (hb.mono ?_)
      · repeat (first | exact Below.refl _ _ | refine Below.setCell ?_ (by first | (simp; done) | omega | (simp; omega)) _ | refine Below.alloc ?_ (by first | (simp; done) | omega | (simp; omega)) _)
      · first | (simp; done) | omega | (simp; omega)
    have hzw1 : w.heap.size < w1.heap.size := by have := hb.size; (try simp at this); omega
    clear hb
    go_wp2_with fail
    refine bodyPost_ret (v := .tuple #[.int .i64 0, .int .i64 0, .int .i64 k]) (by first | (simp [results, Tryd.results17, go_sem]; done) | (simp [results, Tryd.results17, go_sem, *]; done)) rfl ⟨rfl, ?_⟩
    repeat (first | exact Below.refl _ _ | exact HBw1.out | refine Below.setCell ?_ (by first | (simp; done) | omega | (simp; omega)) _ | refine Below.alloc ?_ (by first | (simp; done) | omega | (simp; omega)) _ | refine bel_drew ?_)

set_option maxHeartbeats 1000000 in
theorem specHz_any (s : ByteArray) (a b sid r d : Int) (fb : fits b) (fs : fits sid) (fr : fits r) (fd : fits d) (w : World) :
    Calls Tryd.prog 16 #[.agg #[.string s, .int .i64 a, .int .i64 b], .int .i64 sid, .int .i64 r, .int .i64 d] w fun e w' => e = .returned (hzV s a b sid r d) ∧ Below w.heap.size w w' := by
  unfold hzV
  have H := Lib.hid (fun w => specHV_any s a b sid r d fb fs fr fd w)
  have G := Lib.hid (fun w => specAng_any (hoP b (r - sid) d) (hoQ b (r - sid) d) (hoR b (r - sid) d) w)
  unfold horV at H
  by_cases h : askI s a b sid r d = 0
  · rw [if_pos h]
    simp only [if_pos h] at H
    obtain ⟨u, v, c, hz⟩ := angV_form (hoP b (r - sid) d) (hoQ b (r - sid) d) (hoR b (r - sid) d)
    rw [hz] at G ⊢
    clear hz h
    generalize hoP b (r - sid) d = P at *
    generalize hoQ b (r - sid) d = Q at *
    generalize hoR b (r - sid) d = R at *
    clear fb fs fr fd
    go_enter Tryd.func16, Tryd.ntmps16
    go_wp2_with fail
    refine (H.out _).mono ?_
    rintro e w1 ⟨rfl, hb⟩
    have hsw1 := hb.size
    try simp at hsw1
    obtain ⟨hcw1, hfw1⟩ := bcell hb
    have HBw1 : Hid (Below w.heap.size w w1) := by
      apply Lib.hid
      refine Below.trans ?_ (hb.mono ?_)
      · repeat (first | exact Below.refl _ _ | refine Below.setCell ?_ (by first | (simp; done) | omega | (simp; omega)) _ | refine Below.alloc ?_ (by first | (simp; done) | omega | (simp; omega)) _)
      · first | (simp; done) | omega | (simp; omega)
    have hzw1 : w.heap.size < w1.heap.size := by have := hb.size; (try simp at this); omega
    clear hb
    go_wp2_with fail
    refine (G.out _).mono ?_
    rintro e w2 ⟨rfl, hb⟩
    have hsw2 := hb.size
    try simp at hsw2
    obtain ⟨hcw2, hfw2⟩ := bcell hb
    have HBw2 : Hid (Below w.heap.size w w2) := by
      apply Lib.hid
      refine Below.trans ?_ (hb.mono ?_)
      · repeat (first | exact Below.refl _ _ | exact HBw1.out | refine Below.setCell ?_ (by first | (simp; done) | omega | (simp; omega)) _ | refine Below.alloc ?_ (by first | (simp; done) | omega | (simp; omega)) _)
      · first | (simp; done) | omega | (simp; omega)
    have hzw2 : w.heap.size < w2.heap.size := by have := hb.size; (try simp at this); omega
    clear hb
    first | (have gsw2w1 : w1.heap.size < w2.heap.size := by omega) | skip
    go_wp2_with fail
    refine bodyPost_ret (v := .tuple #[.int .i64 u, .int .i64 v, .int .i64 c]) (by first | (simp [results, Tryd.results16, go_sem]; done) | (simp [results, Tryd.results16, go_sem, *]; done)) rfl ⟨rfl, ?_⟩
    repeat (first | exact Below.refl _ _ | exact HBw2.out | refine Below.setCell ?_ (by first | (simp; done) | omega | (simp; omega)) _ | refine Below.alloc ?_ (by first | (simp; done) | omega | (simp; omega)) _ | refine bel_drew ?_)
  · rw [if_neg h]
    simp only [if_neg h] at H
    generalize askI s a b sid r d = k at *
    have hk : (k == 0) = false := by simpa using h
    clear h G fb fs fr fd
    go_enter Tryd.func16, Tryd.ntmps16
    go_wp2_with fail
    refine (H.out _).mono ?_
    rintro e w1 ⟨rfl, hb⟩
    have hsw1 := hb.size
    try simp at hsw1
    obtain ⟨hcw1, hfw1⟩ := bcell hb
    have HBw1 : Hid (Below w.heap.size w w1) := by
      apply Lib.hid
      refine Below.trans ?_ (hb.mono ?_)
      · repeat (first | exact Below.refl _ _ | refine Below.setCell ?_ (by first | (simp; done) | omega | (simp; omega)) _ | refine Below.alloc ?_ (by first | (simp; done) | omega | (simp; omega)) _)
      · first | (simp; done) | omega | (simp; omega)
    have hzw1 : w.heap.size < w1.heap.size := by have := hb.size; (try simp at this); omega
    clear hb
    go_wp2_with fail
    refine bodyPost_ret (v := .tuple #[.int .i64 0, .int .i64 0, .int .i64 k]) (by first | (simp [results, Tryd.results16, go_sem]; done) | (simp [results, Tryd.results16, go_sem, *]; done)) rfl ⟨rfl, ?_⟩
    repeat (first | exact Below.refl _ _ | exact HBw1.out | refine Below.setCell ?_ (by first | (simp; done) | omega | (simp; omega)) _ | refine Below.alloc ?_ (by first | (simp; done) | omega | (simp; omega)) _ | refine bel_drew ?_)
end Go.Proofs.YtoellkbmhpekdaaDoor
