/-
  The direction of a star over a site: the contracts of exchanged, horizontal, equatorial, HorizontalVector (package impl), l06Vector, HorizontalVector (package spec).
-/
import Derived.Test.YtoellkbmhpekdaaDoorHorM
import Derived.Test.YtoellkbmhpekdaaDoorSite1
import Derived.Test.YtoellkbmhpekdaaDoorTow
import Derived.Test.YtoellkbmhpekdaaDoorRotI
import Derived.Test.YtoellkbmhpekdaaDoorBelow3
namespace Go.Proofs.YtoellkbmhpekdaaDoor
open Go.RowKit
set_option linter.unusedVariables false

theorem rot_ok (x y z a : Int) (h : inV 1000000 x y z) : rotV x y z 2 a = .tuple #[.agg #[.int .i64 (roX 2 x y z (sinI a) (cosI a)), .int .i64 (roY 2 x y z (sinI a) (cosI a)), .int .i64 (roZ 2 x y z (sinI a) (cosI a))], .int .i64 0] := by
  unfold rotV doneV
  rw [if_pos (okV_in (inV_2 h)), if_pos (by decide), if_pos (okV_in (turned_in h (sinI_bd a) (cosI_bd a)))]
theorem dirT_in (lon d : Int) (d0 : -90000 ≤ d) (d1 : d ≤ 90000) : dirT lon d = (dX lon d, dY lon d, sinI d) := by
  unfold dirT
  rw [if_pos ((inR_1 _ _ _).2 ⟨d0, d1⟩)]
  rfl
theorem done_in {x y z : Int} (h : inV 2000000 x y z) : doneV x y z = .tuple #[.agg #[.int .i64 x, .int .i64 y, .int .i64 z], .int .i64 0] := by
  unfold doneV
  rw [if_pos (okV_in h)]
theorem keepA3 {W0 W W' : World} {b0 o0 b1 o1 b2 o2 : Nat} {v0 v1 v2 : Value} (h : W.cell? ⟨b0, o0, none⟩ = some v0 ∧ W.cell? ⟨b1, o1, none⟩ = some v1 ∧ W.cell? ⟨b2, o2, none⟩ = some v2 ∧ Below W0.heap.size W0 W) (hb : Below W.heap.size W W') :
    W'.cell? ⟨b0, o0, none⟩ = some v0 ∧ W'.cell? ⟨b1, o1, none⟩ = some v1 ∧ W'.cell? ⟨b2, o2, none⟩ = some v2 ∧ Below W0.heap.size W0 W' := by
  obtain ⟨h0, h1, h2, h3⟩ := h
  have l0 := World.block_lt_of_cell? W ⟨b0, o0, none⟩ h0
  have l1 := World.block_lt_of_cell? W ⟨b1, o1, none⟩ h1
  have l2 := World.block_lt_of_cell? W ⟨b2, o2, none⟩ h2
  obtain ⟨k, _⟩ := bcell hb
  exact ⟨(k _ _ l0).trans h0, (k _ _ l1).trans h1, (k _ _ l2).trans h2, h3.trans (hb.mono h3.size)⟩

set_option maxHeartbeats 400000 in
theorem exch_any (x y z : Int) (w : World) :
    Calls Tryd.prog 74 #[.agg #[.int .i64 x, .int .i64 y, .int .i64 z]] w fun e w' => e = .returned (.agg #[.int .i64 z, .int .i64 y, .int .i64 x]) ∧ Below w.heap.size w w' := by
  go_enter Tryd.func74, Tryd.ntmps74
  go_wp2_with fail
  refine bodyPost_ret (v := .agg #[.int .i64 z, .int .i64 y, .int .i64 x]) (by first | (simp [results, Tryd.results74, go_sem]; done) | (simp [results, Tryd.results74, go_sem]; done)) rfl ⟨rfl, ?_⟩
  repeat (first | exact Below.refl _ _ | refine Below.setCell ?_ (by first | (simp; done) | omega | (simp; omega)) _ | refine Below.alloc ?_ (by first | (simp; done) | omega | (simp; omega)) _ | refine bel_drew ?_)

set_option maxHeartbeats 1000000 in
theorem l06Vector_any (phi sid r d : Int) (p0 : -90000 ≤ phi) (p1 : phi ≤ 90000) (s0 : 0 ≤ sid) (s1 : sid ≤ 360000) (r0 : 0 ≤ r) (r1 : r ≤ 360000) (d0 : -90000 ≤ d) (d1 : d ≤ 90000) (w : World) :
    Calls Tryd.prog 35 #[.int .i64 phi, .int .i64 sid, .int .i64 r, .int .i64 d] w fun e w' => e = .returned (.agg #[.int .i64 (hoP phi (r - sid) d), .int .i64 (hoQ phi (r - sid) d), .int .i64 (hoR phi (r - sid) d)]) ∧ Below w.heap.size w w' := by
  have D := Lib.hid (fun w => l04Direction_any (r - sid) d (by omega) (by omega) (by omega) (by omega) w)
  have R := Lib.hid (fun w => l04Rotated_any (dX (r - sid) d) (dY (r - sid) d) (sinI d) 2 phi (inV_2 (dir_in _ _)) (by omega) (by omega) (by omega) w)
  unfold hoP hoQ hoR
  change Hid (∀ w, Calls Tryd.prog 40 #[.int .i64 (r - sid), .int .i64 d] w fun e w' => e = .returned (.agg #[.int .i64 (dX (r - sid) d), .int .i64 (dY (r - sid) d), .int .i64 (sinI d)]) ∧ Below w.heap.size w w') at D
  generalize roX 2 (dX (r - sid) d) (dY (r - sid) d) (sinI d) (sinI phi) (cosI phi) = X at *
  generalize roY 2 (dX (r - sid) d) (dY (r - sid) d) (sinI d) (sinI phi) (cosI phi) = Y at *
  generalize roZ 2 (dX (r - sid) d) (dY (r - sid) d) (sinI d) (sinI phi) (cosI phi) = Z at *
  generalize dX (r - sid) d = x at *
  generalize dY (r - sid) d = y at *
  generalize sinI d = z at *
  go_enter Tryd.func35, Tryd.ntmps35
  go_wp2_with fail
  refine (D.out _).mono ?_
  rintro e w1 ⟨rfl, hb⟩
  have hsw1 := hb.size
  try simp at hsw1
  obtain ⟨hcw1, hfw1⟩ := bcell hb
  have HBw1 : Hid (Below w.heap.size w w1) := by
    apply Lib.hid
    refine Below.trans ?_ (hb.mono ?_)
    · repeat (first | exact Below.refl _ _ | refine Below.setCell ?_ (by first | (simp; done) | omega | (simp; omega)) _ | refine Below.alloc ?_ (by first | (simp; done) | omega | (simp; omega)) _)
    · first | (simp; done) | omega | (simp; omega)
  have hzw1 : w.heap.size < w1.heap.size := by have := hb.size; (try simp at this); omega
  clear hb
  go_wp2_with fail
  refine (R.out _).mono ?_
  rintro e w2 ⟨rfl, hb⟩
  have hsw2 := hb.size
  try simp at hsw2
  obtain ⟨hcw2, hfw2⟩ := bcell hb
  have HBw2 : Hid (Below w.heap.size w w2) := by
    apply Lib.hid
    refine Below.trans ?_ (hb.mono ?_)
    · repeat (first | exact Below.refl _ _ | exact HBw1.out | refine Below.setCell ?_ (by first | (simp; done) | omega | (simp; omega)) _ | refine Below.alloc ?_ (by first | (simp; done) | omega | (simp; omega)) _)
    · first | (simp; done) | omega | (simp; omega)
  have hzw2 : w.heap.size < w2.heap.size := by have := hb.size; (try simp at this); omega
  clear hb
  first | (have gsw2w1 : w1.heap.size < w2.heap.size := by omega) | skip
  go_wp2_with fail
  have z0 : w2.cell? ⟨w.heap.size, 0, none⟩ = some (.int .i64 0) := by rw [hcw2 _ _ hzw1, hcw1 _ _ (by first | (simp; done) | (simp; omega))]; simp
  have z1 : w2.cell? ⟨w.heap.size, 1, none⟩ = some (.int .i64 0) := by rw [hcw2 _ _ hzw1, hcw1 _ _ (by first | (simp; done) | (simp; omega))]; simp
  have z2 : w2.cell? ⟨w.heap.size, 2, none⟩ = some (.int .i64 0) := by rw [hcw2 _ _ hzw1, hcw1 _ _ (by first | (simp; done) | (simp; omega))]; simp
  refine bodyPost_ret (v := .agg #[.int .i64 Z, .int .i64 Y, .int .i64 X]) (by first | (simp [results, Tryd.results35, go_sem]; done) | (simp [results, Tryd.results35, go_sem, z0, z1, z2, *]; done)) rfl ⟨rfl, ?_⟩
  repeat (first | exact Below.refl _ _ | exact HBw2.out | refine Below.setCell ?_ (by first | (simp; done) | omega | (simp; omega)) _ | refine Below.alloc ?_ (by first | (simp; done) | omega | (simp; omega)) _ | refine bel_drew ?_)

/-- What HorizontalVector returns. -/
def horV (s : ByteArray) (a b sid r d : Int) : Value := if askI s a b sid r d = 0 then .tuple #[.agg #[.int .i64 (hoP b (r - sid) d), .int .i64 (hoQ b (r - sid) d), .int .i64 (hoR b (r - sid) d)], .int .i64 0] else .tuple #[.agg #[.int .i64 0, .int .i64 0, .int .i64 0], .int .i64 (askI s a b sid r d)]
theorem horV_form (s : ByteArray) (a b sid r d : Int) : ∃ x y z c : Int, horV s a b sid r d = .tuple #[.agg #[.int .i64 x, .int .i64 y, .int .i64 z], .int .i64 c] := by unfold horV; split <;> exact ⟨_, _, _, _, rfl⟩

set_option maxHeartbeats 1000000 in
theorem specHV_any (s : ByteArray) (a b sid r d : Int) (fb : fits b) (fs : fits sid) (fr : fits r) (fd : fits d) (w : World) :
    Calls Tryd.prog 12 #[.agg #[.string s, .int .i64 a, .int .i64 b], .int .i64 sid, .int .i64 r, .int .i64 d] w fun e w' => e = .returned (horV s a b sid r d) ∧ Below w.heap.size w w' := by
  unfold horV
  have CK := Lib.hid (fun (w : World) g c0 c1 c2 => l06Ask_at g 0 s a b sid r d w c0 c1 c2)
  by_cases h : askI s a b sid r d = 0
  · rw [if_pos h]
    obtain ⟨hs, h0, h1, h2, h3, h4, h5⟩ := (ask_0 _ _ _ _ _ _).1 h
    rw [h] at CK
    have V := Lib.hid (fun w => l06Vector_any b sid r d h2.1 h2.2 h0.1 (by omega) h1.1 (by omega) h3.1 h3.2 w)
    have DO := Lib.hid (fun w => l04Done_any (hoP b (r - sid) d) (hoQ b (r - sid) d) (hoR b (r - sid) d) w)
    rw [done_in (ho_ni _ _ _)] at DO
    clear h hs h5
    generalize hoP b (r - sid) d = P at *
    generalize hoQ b (r - sid) d = Q at *
    generalize hoR b (r - sid) d = R at *
    go_enter Tryd.func12, Tryd.ntmps12
    go_wp2_with fail
    refine (CK.out _ _ (by simp) (by simp) (by simp)).mono ?_
    rintro e w' ⟨rfl, rfl⟩
    go_wp2_with fail
    refine (V.out _).mono ?_
    rintro e w1 ⟨rfl, hb⟩
    have hsw1 := hb.size
    try simp at hsw1
    obtain ⟨hcw1, hfw1⟩ := bcell hb
    have HBw1 : Hid (Below w.heap.size w w1) := by
      apply Lib.hid
      refine Below.trans ?_ (hb.mono ?_)
      · repeat (first | exact Below.refl _ _ | refine Below.setCell ?_ (by first | (simp; done) | omega | (simp; omega)) _ | refine Below.alloc ?_ (by first | (simp; done) | omega | (simp; omega)) _)
      · first | (simp; done) | omega | (simp; omega)
    have hzw1 : w.heap.size + 1 < w1.heap.size := by have := hb.size; (try simp at this); omega
    have hyw1 : w.heap.size < w1.heap.size := by have := hb.size; (try simp at this); omega
    clear hb
    go_wp2_with fail
    refine (DO.out _).mono ?_
    rintro e w2 ⟨rfl, hb⟩
    have hsw2 := hb.size
    try simp at hsw2
    obtain ⟨hcw2, hfw2⟩ := bcell hb
    have HBw2 : Hid (Below w.heap.size w w2) := by
      apply Lib.hid
      refine Below.trans ?_ (hb.mono ?_)
      · repeat (first | exact Below.refl _ _ | exact HBw1.out | refine Below.setCell ?_ (by first | (simp; done) | omega | (simp; omega)) _ | refine Below.alloc ?_ (by first | (simp; done) | omega | (simp; omega)) _)
      · first | (simp; done) | omega | (simp; omega)
    have hzw2 : w.heap.size + 1 < w2.heap.size := by have := hb.size; (try simp at this); omega
    have hyw2 : w.heap.size < w2.heap.size := by have := hb.size; (try simp at this); omega
    clear hb
    first | (have gsw2w1 : w1.heap.size < w2.heap.size := by omega) | skip
    go_wp2_with fail
    have z0 : w2.cell? ⟨w.heap.size + 1, 0, none⟩ = some (.int .i64 0) := by rw [hcw2 _ _ hzw1, hcw1 _ _ (by first | (simp; done) | (simp; omega))]; simp
    have z1 : w2.cell? ⟨w.heap.size + 1, 1, none⟩ = some (.int .i64 0) := by rw [hcw2 _ _ hzw1, hcw1 _ _ (by first | (simp; done) | (simp; omega))]; simp
    have z2 : w2.cell? ⟨w.heap.size + 1, 2, none⟩ = some (.int .i64 0) := by rw [hcw2 _ _ hzw1, hcw1 _ _ (by first | (simp; done) | (simp; omega))]; simp
    refine bodyPost_ret (v := .tuple #[.agg #[.int .i64 P, .int .i64 Q, .int .i64 R], .int .i64 0]) (by first | (simp [results, Tryd.results12, go_sem]; done) | (simp [results, Tryd.results12, go_sem, z0, z1, z2, *]; done)) rfl ⟨rfl, ?_⟩
    repeat (first | exact Below.refl _ _ | exact HBw2.out | refine Below.setCell ?_ (by first | (simp; done) | omega | (simp; omega)) _ | refine Below.alloc ?_ (by first | (simp; done) | omega | (simp; omega)) _ | refine bel_drew ?_)
  · rw [if_neg h]
    generalize askI s a b sid r d = k at *
    have hk : (k == 0) = false := by simpa using h
    clear h
    go_enter Tryd.func12, Tryd.ntmps12
    go_wp2_with fail
    refine (CK.out _ _ (by simp) (by simp) (by simp)).mono ?_
    rintro e w' ⟨rfl, rfl⟩
    go_wp2_with fail
    refine bodyPost_ret (v := .tuple #[.agg #[.int .i64 0, .int .i64 0, .int .i64 0], .int .i64 k]) (by first | (simp [results, Tryd.results12, go_sem]; done) | (simp [results, Tryd.results12, go_sem, *]; done)) rfl ⟨rfl, ?_⟩
    repeat (first | exact Below.refl _ _ | refine Below.setCell ?_ (by first | (simp; done) | omega | (simp; omega)) _ | refine Below.alloc ?_ (by first | (simp; done) | omega | (simp; omega)) _ | refine bel_drew ?_)

end Go.Proofs.YtoellkbmhpekdaaDoor
