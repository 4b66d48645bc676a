/-
  From azimuth and altitude back: the contracts of equatorial, EquatorialOf (package impl) and of EquatorialOf (package spec).
-/
import Derived.Test.YtoellkbmhpekdaaDoorHor3
import Derived.Test.YtoellkbmhpekdaaDoorNrm
import Derived.Test.YtoellkbmhpekdaaDoorAngP
namespace Go.Proofs.YtoellkbmhpekdaaDoor
open Go.RowKit
set_option linter.unusedVariables false

theorem keepB3 {w W W' : World} {b0 o0 b1 o1 b2 o2 : Nat} {v0 v1 v2 : Value} (h : W.cell? ⟨b0, o0, none⟩ = some v0 ∧ W.cell? ⟨b1, o1, none⟩ = some v1 ∧ W.cell? ⟨b2, o2, none⟩ = some v2 ∧ Below w.heap.size w W) (hb : Below W.heap.size W W') :
    W'.cell? ⟨b0, o0, none⟩ = some v0 ∧ W'.cell? ⟨b1, o1, none⟩ = some v1 ∧ W'.cell? ⟨b2, o2, none⟩ = some v2 ∧ Below w.heap.size w W' := keepA3 h hb
theorem stored3 {w W : World} {g b0 o0 b1 o1 b2 o2 : Nat} {u v s v0 v1 v2 : Value} (h : W.cell? ⟨b0, o0, none⟩ = some v0 ∧ W.cell? ⟨b1, o1, none⟩ = some v1 ∧ W.cell? ⟨b2, o2, none⟩ = some v2 ∧ Below w.heap.size w W) (g0 : g ≠ b0) (g1 : g ≠ b1) (g2 : g ≠ b2) (hg : w.heap.size ≤ g) :
    (((W.setCell ⟨g, 0, none⟩ u).setCell ⟨g, 1, none⟩ v).setCell ⟨g, 2, none⟩ s).cell? ⟨b0, o0, none⟩ = some v0 ∧ (((W.setCell ⟨g, 0, none⟩ u).setCell ⟨g, 1, none⟩ v).setCell ⟨g, 2, none⟩ s).cell? ⟨b1, o1, none⟩ = some v1 ∧ (((W.setCell ⟨g, 0, none⟩ u).setCell ⟨g, 1, none⟩ v).setCell ⟨g, 2, none⟩ s).cell? ⟨b2, o2, none⟩ = some v2 ∧ Below w.heap.size w (((W.setCell ⟨g, 0, none⟩ u).setCell ⟨g, 1, none⟩ v).setCell ⟨g, 2, none⟩ s) := by
  have k : ∀ b o x, g ≠ b → W.cell? ⟨b, o, none⟩ = some x → (((W.setCell ⟨g, 0, none⟩ u).setCell ⟨g, 1, none⟩ v).setCell ⟨g, 2, none⟩ s).cell? ⟨b, o, none⟩ = some x := by
    intro b o x hb hx
    rw [World.cell?_setCell_other (h := by simp [hb]), World.cell?_setCell_other (h := by simp [hb]), World.cell?_setCell_other (h := by simp [hb])]
    exact hx
  exact ⟨k _ _ _ g0 h.1, k _ _ _ g1 h.2.1, k _ _ _ g2 h.2.2.1, ((h.2.2.2.setCell hg _).setCell hg _).setCell hg _⟩

set_option maxHeartbeats 4000000 in
theorem equat_any (s : ByteArray) (a b sid az al : Int) (p0 : -90000 ≤ b) (p1 : b ≤ 90000) (r0 : 0 ≤ az) (r1 : az ≤ 360000) (d0 : -90000 ≤ al) (d1 : al ≤ 90000) (w : World) (hs : SinesOK w) :
    Calls Tryd.prog 45 #[.agg #[.string s, .int .i64 a, .int .i64 b, .int .i64 sid], .agg #[.int .i64 az, .int .i64 al]] w fun e w' => e = .returned (.tuple #[.agg #[.int .i64 (baX b az al), .int .i64 (baY b az al), .int .i64 (baZ b az al)], .int .i64 0]) ∧ Below w.heap.size w w' := by
  have T := Lib.hid (fun w hs => dirTow_any az al ⟨by omega, by omega⟩ w hs)
  rw [dirT_in _ _ d0 d1] at T
  have R := Lib.hid (fun w hs => implRot_any (sinI al) (dY az al) (dX az al) 2 (-b) (by omega) (by omega) w hs)
  rw [rot_ok _ _ _ _ (dir_ni _ _)] at R
  have EX := Lib.hid (fun w => exch_any (dX az al) (dY az al) (sinI al) w)
  unfold baX baY baZ
  have E := Lib.hid hs
  have eneg : IntKind.i64.wrap (-b) = -b := IntWalk.i64_in _ (by omega)
  clear hs
  simp only at T
  generalize roX 2 (sinI al) (dY az al) (dX az al) (sinI (-b)) (cosI (-b)) = X at *
  generalize roY 2 (sinI al) (dY az al) (dX az al) (sinI (-b)) (cosI (-b)) = Y at *
  generalize roZ 2 (sinI al) (dY az al) (dX az al) (sinI (-b)) (cosI (-b)) = Z at *
  generalize dX az al = x at *
  generalize dY az al = y at *
  generalize sinI al = z at *
  obtain ⟨W0, hW0⟩ : ∃ W0, W0 = ((w.alloc (.cells #[.string s, .int .i64 a, .int .i64 b, .int .i64 sid] 54)).alloc (.cells #[.int .i64 az, .int .i64 al] 56)).alloc (.cells #[.int .i64 0, .int .i64 0, .int .i64 0] 26) := ⟨_, rfl⟩
  have HB0 : Hid (Below w.heap.size w W0) := Lib.hid (by rw [hW0]; repeat (first | exact Below.refl _ _ | refine Below.alloc ?_ (by first | (simp; done) | (simp; omega)) _))
  have K0 : Hid (W0.cell? ⟨w.heap.size, 2, none⟩ = some (.int .i64 b) ∧ W0.cell? ⟨w.heap.size + 1, 0, none⟩ = some (.int .i64 az) ∧ W0.cell? ⟨w.heap.size + 1, 1, none⟩ = some (.int .i64 al) ∧ Below w.heap.size w W0) := Lib.hid ⟨by rw [hW0, World.cell?_alloc_lt _ _ _ (by first | (simp; done) | (simp; omega))]; simp, by rw [hW0, World.cell?_alloc_lt _ _ _ (by first | (simp; done) | (simp; omega))]; simp, by rw [hW0, World.cell?_alloc_lt _ _ _ (by first | (simp; done) | (simp; omega))]; simp, HB0.out⟩
  have R0 : Hid (C3 W0 (w.heap.size + 1 + 1) 0 0 0) := Lib.hid (by rw [hW0]; simpa using C3.new ((w.alloc (.cells #[.string s, .int .i64 a, .int .i64 b, .int .i64 sid] 54)).alloc (.cells #[.int .i64 az, .int .i64 al] 56)) 26 0 0 0)
  have HW := Lib.hid hW0
  clear hW0
  go_enter Tryd.func45, Tryd.ntmps45
  go_wp2_with fail
  rw [← HW.out]
  clear HW
  have E0 := Lib.hid (E.out.below HB0.out)
  obtain ⟨k0, k1, k2, k3⟩ := K0.out
  go_region_held3 (fun w' => w'.cell? ⟨w.heap.size, 2, none⟩ = some (.int .i64 b) ∧ w'.cell? ⟨w.heap.size + 1, 0, none⟩ = some (.int .i64 az) ∧ w'.cell? ⟨w.heap.size + 1, 1, none⟩ = some (.int .i64 al) ∧ Below w.heap.size w w') (first | (exact keepB3 K0.out (bel_drew (Below.refl _ _))) | (exact keepB3 K0.out y3) | (exact keepB3 K0.out y2) | (exact keepB3 K0.out y1) | (exact stored3 (keepB3 K0.out y3) (by omega) (by omega) (by omega) (by omega)) | go_keep) ((first
    | (go_at_call 73; (with_reducible refine (T.out _ (SinesOK.below E0.out (bel_drew (Below.refl _ _)))).mono ?_); rintro e x1 ⟨rfl, hx1⟩; have y1 := undrew hx1)
    | (go_at_call 74; (with_reducible refine (EX.out _).mono ?_); rintro e x2 ⟨rfl, hx2⟩; have y2 := onward y1 hx2)
    | (go_at_call 72; (with_reducible refine (R.out _ (SinesOK.below E0.out y2)).mono ?_); rintro e x3 ⟨rfl, hx3⟩; have y3 := onward y2 hx3; have rr := R0.out.on y3; obtain ⟨q0, q1, q2, q3, q4, q5⟩ := rr)))
  rename_i held
  have HB := Lib.hid held.2.2.2
  clear held k0 k1 k2 k3
  go_wp2_with fail
  refine bodyPost_ret (v := .tuple #[.agg #[.int .i64 X, .int .i64 Y, .int .i64 Z], .int .i64 0]) (by first | (simp [results, Tryd.results45, go_sem]; done) | (simp [results, Tryd.results45, go_sem, *]; done)) rfl ⟨rfl, ?_⟩
  repeat (first | exact Below.refl _ _ | exact HB.out | refine Below.setCell ?_ (by first | (simp; done) | omega | (simp; omega)) _ | refine Below.alloc ?_ (by first | (simp; done) | omega | (simp; omega)) _ | refine bel_drew ?_)

/-- What EquatorialOf returns. -/
def eqV (s : ByteArray) (a b sid az al : Int) : Value := if askI s a b sid az al = 0 then (if baX b az al = 0 ∧ baY b az al = 0 ∧ baZ b az al = 0 then .tuple #[.int .i64 0, .int .i64 0, .int .i64 6] else .tuple #[.int .i64 (nrm (sid + lonI (baX b az al) (baY b az al))), .int .i64 (latI (baX b az al) (baY b az al) (baZ b az al)), .int .i64 0]) else .tuple #[.int .i64 0, .int .i64 0, .int .i64 (askI s a b sid az al)]
theorem eqV_form (s : ByteArray) (a b sid az al : Int) : ∃ x y c : Int, eqV s a b sid az al = .tuple #[.int .i64 x, .int .i64 y, .int .i64 c] := by
  unfold eqV
  split
  · split <;> exact ⟨_, _, _, rfl⟩
  · exact ⟨_, _, _, rfl⟩
theorem lonI_bd (x y : Int) : 0 ≤ lonI x y ∧ lonI x y ≤ 360000 := by
  unfold lonI
  have := dirI_bd y x
  split <;> omega
theorem ang_in {x y z : Int} (h : inV 2000000 x y z) : angV x y z = if x = 0 ∧ y = 0 ∧ z = 0 then .tuple #[.int .i64 0, .int .i64 0, .int .i64 6] else .tuple #[.int .i64 (lonI x y), .int .i64 (latI x y z), .int .i64 0] := by
  unfold angV
  rw [if_pos (okV_in h)]

set_option maxRecDepth 100000 in
set_option maxHeartbeats 1000000 in
theorem implEq_any (s : ByteArray) (a b sid r d : Int) (hmax : s.size ≤ maxLen) (fb : fits b) (fs : fits sid) (fr : fits r) (fd : fits d) (w : World) (hs : SinesOK w) :
    Calls Tryd.prog 19 #[.agg #[.string s, .int .i64 a, .int .i64 b], .int .i64 sid, .int .i64 r, .int .i64 d] w fun e w' => e = .returned (eqV s a b sid r d) ∧ Below w.heap.size w w' := by
  unfold eqV
  have CK := Lib.hid (fun w => check_any s a b sid r d hmax w)
  have E := Lib.hid hs
  clear hs hmax
  by_cases h : askI s a b sid r d = 0
  · rw [if_pos h]
    obtain ⟨hs, h0, h1, h2, h3, h4, h5⟩ := (ask_0 _ _ _ _ _ _).1 h
    rw [h] at CK
    have V := Lib.hid (fun w hs => equat_any s a b sid r d h2.1 h2.2 h1.1 (by omega) h3.1 h3.2 w hs)
    have G := Lib.hid (fun w hs => implAng_any (baX b r d) (baY b r d) (baZ b r d) w hs)
    have lb := lonI_bd (baX b r d) (baY b r d)
    have N := Lib.hid (fun w => implNrm_any (sid + lonI (baX b r d) (baY b r d)) w (by omega) (by omega))
    rw [ang_in (ba_in b r d)] at G
    generalize nrm (sid + lonI (baX b r d) (baY b r d)) = Z0 at *
    clear h hs h5 fb fs fr fd
    by_cases hz : baX b r d = 0 ∧ baY b r d = 0 ∧ baZ b r d = 0
    · simp only [if_pos hz] at G ⊢
      clear hz
      generalize lonI (baX b r d) (baY b r d) = L at *
      generalize latI (baX b r d) (baY b r d) (baZ b r d) = M at *
      generalize baX b r d = P at *
      generalize baY b r d = Q at *
      generalize baZ b r d = R at *
      go_enter Tryd.func19, Tryd.ntmps19
      go_wp2_with fail
      refine (CK.out _).mono ?_
      rintro e w1 ⟨rfl, hb⟩
      have hsw1 := hb.size
      try simp at hsw1
      obtain ⟨hcw1, hfw1⟩ := bcell hb
      have HBw1 : Hid (Below w.heap.size w w1) := by
        apply Lib.hid
        refine Below.trans ?_ (hb.mono ?_)
        · repeat (first | exact Below.refl _ _ | refine Below.setCell ?_ (by first | (simp; done) | omega | (simp; omega)) _ | refine Below.alloc ?_ (by first | (simp; done) | omega | (simp; omega)) _)
        · first | (simp; done) | omega | (simp; omega)
      have hzw1 : w.heap.size + 2 < w1.heap.size := by have := hb.size; (try simp at this); omega
      have hyw1 : w.heap.size + 1 < w1.heap.size := by have := hb.size; (try simp at this); omega
      have hxw1 : w.heap.size < w1.heap.size := by have := hb.size; (try simp at this); omega
      clear hb
      go_wp2_with fail
      refine (V.out _ (E.out.below (by repeat (first | exact Below.refl _ _ | exact HBw1.out | refine Below.setCell ?_ (by first | (simp; done) | omega | (simp; omega)) _ | refine Below.alloc ?_ (by first | (simp; done) | omega | (simp; omega)) _ | refine bel_drew ?_)))).mono ?_
      rintro e w2 ⟨rfl, hb⟩
      have hsw2 := hb.size
      try simp at hsw2
      obtain ⟨hcw2, hfw2⟩ := bcell hb
      have HBw2 : Hid (Below w.heap.size w w2) := by
        apply Lib.hid
        refine Below.trans ?_ (hb.mono ?_)
        · repeat (first | exact Below.refl _ _ | exact HBw1.out | refine Below.setCell ?_ (by first | (simp; done) | omega | (simp; omega)) _ | refine Below.alloc ?_ (by first | (simp; done) | omega | (simp; omega)) _)
        · first | (simp; done) | omega | (simp; omega)
      have hzw2 : w.heap.size + 2 < w2.heap.size := by have := hb.size; (try simp at this); omega
      have hyw2 : w.heap.size + 1 < w2.heap.size := by have := hb.size; (try simp at this); omega
      have hxw2 : w.heap.size < w2.heap.size := by have := hb.size; (try simp at this); omega
      clear hb
      first | (have gsw2w1 : w1.heap.size < w2.heap.size := by omega) | skip
      go_wp2_with fail
      refine (G.out _ (E.out.below (by repeat (first | exact Below.refl _ _ | exact HBw2.out | refine Below.setCell ?_ (by first | (simp; done) | omega | (simp; omega)) _ | refine Below.alloc ?_ (by first | (simp; done) | omega | (simp; omega)) _ | refine bel_drew ?_)))).mono ?_
      rintro e w3 ⟨rfl, hb⟩
      have hsw3 := hb.size
      try simp at hsw3
      obtain ⟨hcw3, hfw3⟩ := bcell hb
      have HBw3 : Hid (Below w.heap.size w w3) := by
        apply Lib.hid
        refine Below.trans ?_ (hb.mono ?_)
        · repeat (first | exact Below.refl _ _ | exact HBw2.out | refine Below.setCell ?_ (by first | (simp; done) | omega | (simp; omega)) _ | refine Below.alloc ?_ (by first | (simp; done) | omega | (simp; omega)) _)
        · first | (simp; done) | omega | (simp; omega)
      have hzw3 : w.heap.size + 2 < w3.heap.size := by have := hb.size; (try simp at this); omega
      have hyw3 : w.heap.size + 1 < w3.heap.size := by have := hb.size; (try simp at this); omega
      have hxw3 : w.heap.size < w3.heap.size := by have := hb.size; (try simp at this); omega
      clear hb
      first | (have gsw3w1 : w1.heap.size < w3.heap.size := by omega) | skip
      first | (have gsw3w2 : w2.heap.size < w3.heap.size := by omega) | skip
      go_wp2_with fail
      refine bodyPost_ret (v := .tuple #[.int .i64 0, .int .i64 0, .int .i64 6]) (by first | (simp [results, Tryd.results19, go_sem]; done) | (simp [results, Tryd.results19, go_sem, *]; done)) rfl ⟨rfl, ?_⟩
      repeat (first | exact Below.refl _ _ | exact HBw3.out | refine Below.setCell ?_ (by first | (simp; done) | omega | (simp; omega)) _ | refine Below.alloc ?_ (by first | (simp; done) | omega | (simp; omega)) _ | refine bel_drew ?_)
    · simp only [if_neg hz] at G ⊢
      clear hz
      generalize lonI (baX b r d) (baY b r d) = L at *
      generalize latI (baX b r d) (baY b r d) (baZ b r d) = M at *
      generalize baX b r d = P at *
      generalize baY b r d = Q at *
      generalize baZ b r d = R at *
      go_enter Tryd.func19, Tryd.ntmps19
      go_wp2_with fail
      refine (CK.out _).mono ?_
      rintro e w1 ⟨rfl, hb⟩
      have hsw1 := hb.size
      try simp at hsw1
      obtain ⟨hcw1, hfw1⟩ := bcell hb
      have HBw1 : Hid (Below w.heap.size w w1) := by
        apply Lib.hid
        refine Below.trans ?_ (hb.mono ?_)
        · repeat (first | exact Below.refl _ _ | refine Below.setCell ?_ (by first | (simp; done) | omega | (simp; omega)) _ | refine Below.alloc ?_ (by first | (simp; done) | omega | (simp; omega)) _)
        · first | (simp; done) | omega | (simp; omega)
      have hzw1 : w.heap.size + 2 < w1.heap.size := by have := hb.size; (try simp at this); omega
      have hyw1 : w.heap.size + 1 < w1.heap.size := by have := hb.size; (try simp at this); omega
      have hxw1 : w.heap.size < w1.heap.size := by have := hb.size; (try simp at this); omega
      clear hb
      go_wp2_with fail
      refine (V.out _ (E.out.below (by repeat (first | exact Below.refl _ _ | exact HBw1.out | refine Below.setCell ?_ (by first | (simp; done) | omega | (simp; omega)) _ | refine Below.alloc ?_ (by first | (simp; done) | omega | (simp; omega)) _ | refine bel_drew ?_)))).mono ?_
      rintro e w2 ⟨rfl, hb⟩
      have hsw2 := hb.size
      try simp at hsw2
      obtain ⟨hcw2, hfw2⟩ := bcell hb
      have HBw2 : Hid (Below w.heap.size w w2) := by
        apply Lib.hid
        refine Below.trans ?_ (hb.mono ?_)
        · repeat (first | exact Below.refl _ _ | exact HBw1.out | refine Below.setCell ?_ (by first | (simp; done) | omega | (simp; omega)) _ | refine Below.alloc ?_ (by first | (simp; done) | omega | (simp; omega)) _)
        · first | (simp; done) | omega | (simp; omega)
      have hzw2 : w.heap.size + 2 < w2.heap.size := by have := hb.size; (try simp at this); omega
      have hyw2 : w.heap.size + 1 < w2.heap.size := by have := hb.size; (try simp at this); omega
      have hxw2 : w.heap.size < w2.heap.size := by have := hb.size; (try simp at this); omega
      clear hb
      first | (have gsw2w1 : w1.heap.size < w2.heap.size := by omega) | skip
      go_wp2_with fail
      refine (G.out _ (E.out.below (by repeat (first | exact Below.refl _ _ | exact HBw2.out | refine Below.setCell ?_ (by first | (simp; done) | omega | (simp; omega)) _ | refine Below.alloc ?_ (by first | (simp; done) | omega | (simp; omega)) _ | refine bel_drew ?_)))).mono ?_
      rintro e w3 ⟨rfl, hb⟩
      have hsw3 := hb.size
      try simp at hsw3
      obtain ⟨hcw3, hfw3⟩ := bcell hb
      have HBw3 : Hid (Below w.heap.size w w3) := by
        apply Lib.hid
        refine Below.trans ?_ (hb.mono ?_)
        · repeat (first | exact Below.refl _ _ | exact HBw2.out | refine Below.setCell ?_ (by first | (simp; done) | omega | (simp; omega)) _ | refine Below.alloc ?_ (by first | (simp; done) | omega | (simp; omega)) _)
        · first | (simp; done) | omega | (simp; omega)
      have hzw3 : w.heap.size + 2 < w3.heap.size := by have := hb.size; (try simp at this); omega
      have hyw3 : w.heap.size + 1 < w3.heap.size := by have := hb.size; (try simp at this); omega
      have hxw3 : w.heap.size < w3.heap.size := by have := hb.size; (try simp at this); omega
      clear hb
      first | (have gsw3w1 : w1.heap.size < w3.heap.size := by omega) | skip
      first | (have gsw3w2 : w2.heap.size < w3.heap.size := by omega) | skip
      go_wp2_with fail
      refine (N.out _).mono ?_
      rintro e w' ⟨rfl, rfl⟩
      go_wp2_with fail
      refine bodyPost_ret (v := .tuple #[.int .i64 Z0, .int .i64 M, .int .i64 0]) (by first | (simp [results, Tryd.results19, go_sem]; done) | (simp [results, Tryd.results19, go_sem, *]; done)) rfl ⟨rfl, ?_⟩
      repeat (first | exact Below.refl _ _ | exact HBw3.out | refine Below.setCell ?_ (by first | (simp; done) | omega | (simp; omega)) _ | refine Below.alloc ?_ (by first | (simp; done) | omega | (simp; omega)) _ | refine bel_drew ?_)
  · rw [if_neg h]
    generalize askI s a b sid r d = k at *
    have hk : (k == 0) = false := by simpa using h
    clear h
    go_enter Tryd.func19, Tryd.ntmps19
    go_wp2_with fail
    refine (CK.out _).mono ?_
    rintro e w1 ⟨rfl, hb⟩
    have hsw1 := hb.size
    try simp at hsw1
    obtain ⟨hcw1, hfw1⟩ := bcell hb
    have HBw1 : Hid (Below w.heap.size w w1) := by
      apply Lib.hid
      refine Below.trans ?_ (hb.mono ?_)
      · repeat (first | exact Below.refl _ _ | refine Below.setCell ?_ (by first | (simp; done) | omega | (simp; omega)) _ | refine Below.alloc ?_ (by first | (simp; done) | omega | (simp; omega)) _)
      · first | (simp; done) | omega | (simp; omega)
    have hzw1 : w.heap.size + 2 < w1.heap.size := by have := hb.size; (try simp at this); omega
    have hyw1 : w.heap.size + 1 < w1.heap.size := by have := hb.size; (try simp at this); omega
    have hxw1 : w.heap.size < w1.heap.size := by have := hb.size; (try simp at this); omega
    clear hb
    go_wp2_with fail
    refine bodyPost_ret (v := .tuple #[.int .i64 0, .int .i64 0, .int .i64 k]) (by first | (simp [results, Tryd.results19, go_sem]; done) | (simp [results, Tryd.results19, go_sem, *]; done)) rfl ⟨rfl, ?_⟩
    repeat (first | exact Below.refl _ _ | exact HBw1.out | refine Below.setCell ?_ (by first | (simp; done) | omega | (simp; omega)) _ | refine Below.alloc ?_ (by first | (simp; done) | omega | (simp; omega)) _ | refine bel_drew ?_)

theorem vec_eql (x y z : Int) (w : World) : (binOp .eql 26 (.agg #[.int .i64 x, .int .i64 y, .int .i64 z]) (.agg #[.int .i64 0, .int .i64 0, .int .i64 0])).run Tryd.prog w = .ok (.bool (decide (x = 0 ∧ y = 0 ∧ z = 0))) w := by
  rw [run_eql_struct]
  have hu : Tryd.prog.underlying 26 = some (.struct (Tryd.prog.fieldsOf 26)) := by kernel_rfl
  have hp : Tryd.prog.stoodInHeld 26 = false := by kernel_rfl
  rw [run_equalIn_agg w 9999 26 _ _ hu hp]
  simp only [Program.fieldsOf, Tryd.underlying26]
  simp [Op.eqFields, go_sem, Tryd.underlying2]
  by_cases h0 : x = 0 <;> by_cases h1 : y = 0 <;> by_cases h2 : z = 0 <;> simp [h0, h1, h2]
theorem vec_guard : Tryd.prog.eqGuardType Tryd.prog.depth 26 = false := by kernel_rfl

set_option maxRecDepth 100000 in
set_option maxHeartbeats 2000000 in
theorem specEq_any (s : ByteArray) (a b sid r d : Int) (fb : fits b) (fs : fits sid) (fr : fits r) (fd : fits d) (w : World) :
    Calls Tryd.prog 18 #[.agg #[.string s, .int .i64 a, .int .i64 b], .int .i64 sid, .int .i64 r, .int .i64 d] w fun e w' => e = .returned (eqV s a b sid r d) ∧ Below w.heap.size w w' := by
  unfold eqV
  have CK := Lib.hid (fun (w : World) g c0 c1 c2 => l06Ask_at g 0 s a b sid r d w c0 c1 c2)
  by_cases h : askI s a b sid r d = 0
  · rw [if_pos h]
    obtain ⟨hs, h0, h1, h2, h3, h4, h5⟩ := (ask_0 _ _ _ _ _ _).1 h
    rw [h] at CK
    have D := Lib.hid (fun w => l04Direction_any r d fr.1 fr.2 fd.1 fd.2 w)
    change Hid (∀ w, Calls Tryd.prog 40 #[.int .i64 r, .int .i64 d] w fun e w' => e = .returned (.agg #[.int .i64 (dX r d), .int .i64 (dY r d), .int .i64 (sinI d)]) ∧ Below w.heap.size w w') at D
    have R0 := Lib.hid (fun w => l04Rotated_any (sinI d) (dY r d) (dX r d) 2 (-b) (inV_2 (dir_ni _ _)) (by omega) (by omega) (by omega) w)
    change Hid (∀ w, Calls Tryd.prog 41 #[.agg #[.int .i64 (sinI d), .int .i64 (dY r d), .int .i64 (dX r d)], .int .i64 2, .int .i64 (-b)] w fun e w' => e = .returned (.agg #[.int .i64 (baX b r d), .int .i64 (baY b r d), .int .i64 (baZ b r d)]) ∧ Below w.heap.size w w') at R0
    have O := Lib.hid (fun w => l04Ok_any (baX b r d) (baY b r d) (baZ b r d) w)
    rw [okV_in (ba_in b r d)] at O
    have G := Lib.hid (fun w => l04Angles_any (baX b r d) (baY b r d) (baZ b r d) (ba_in b r d) w)
    have lb := lonI_bd (baX b r d) (baY b r d)
    have N := Lib.hid (fun w => l02Normal_any (sid + lonI (baX b r d) (baY b r d)) w (by omega) (by omega))
    have NE : ∀ w, (binOp .eql 26 (.agg #[.int .i64 (baX b r d), .int .i64 (baY b r d), .int .i64 (baZ b r d)]) (.agg #[.int .i64 0, .int .i64 0, .int .i64 0])).run Tryd.prog w = .ok (.bool (decide (baX b r d = 0 ∧ baY b r d = 0 ∧ baZ b r d = 0))) w := fun w => vec_eql _ _ _ w
    have EG : ∀ p q w, (eqGuard .eql 26 p q (.agg #[.int .i64 (baX b r d), .int .i64 (baY b r d), .int .i64 (baZ b r d)]) (.agg #[.int .i64 0, .int .i64 0, .int .i64 0])).run Tryd.prog w = .ok () w := fun p q w => run_eqGuard_agg w .eql 26 p q _ _ vec_guard
    generalize nrm (sid + lonI (baX b r d) (baY b r d)) = Z0 at *
    clear h hs h5
    by_cases hz : baX b r d = 0 ∧ baY b r d = 0 ∧ baZ b r d = 0
    · rw [decide_eq_true hz] at NE
      simp only [if_pos hz]
      clear hz
      generalize lonI (baX b r d) (baY b r d) = L at *
      generalize latI (baX b r d) (baY b r d) (baZ b r d) = M at *
      generalize baX b r d = P at *
      generalize baY b r d = Q at *
      generalize baZ b r d = R at *
      generalize dX r d = x at *
      generalize dY r d = y at *
      generalize sinI d = z at *
      go_enter Tryd.func18, Tryd.ntmps18
      go_wp2_with fail
      refine (CK.out _ _ (by simp) (by simp) (by simp)).mono ?_
      rintro e w' ⟨rfl, rfl⟩
      go_wp2_with fail
      refine (D.out _).mono ?_
      rintro e w1 ⟨rfl, hb⟩
      have hsw1 := hb.size
      try simp at hsw1
      obtain ⟨hcw1, hfw1⟩ := bcell hb
      have HBw1 : Hid (Below w.heap.size w w1) := by
        apply Lib.hid
        refine Below.trans ?_ (hb.mono ?_)
        · repeat (first | exact Below.refl _ _ | refine Below.setCell ?_ (by first | (simp; done) | omega | (simp; omega)) _ | refine Below.alloc ?_ (by first | (simp; done) | omega | (simp; omega)) _)
        · first | (simp; done) | omega | (simp; omega)
      have hzw1 : w.heap.size < w1.heap.size := by have := hb.size; (try simp at this); omega
      clear hb
      go_wp2_with fail
      refine (R0.out _).mono ?_
      rintro e w2 ⟨rfl, hb⟩
      have hsw2 := hb.size
      try simp at hsw2
      obtain ⟨hcw2, hfw2⟩ := bcell hb
      have HBw2 : Hid (Below w.heap.size w w2) := by
        apply Lib.hid
        refine Below.trans ?_ (hb.mono ?_)
        · repeat (first | exact Below.refl _ _ | exact HBw1.out | refine Below.setCell ?_ (by first | (simp; done) | omega | (simp; omega)) _ | refine Below.alloc ?_ (by first | (simp; done) | omega | (simp; omega)) _)
        · first | (simp; done) | omega | (simp; omega)
      have hzw2 : w.heap.size < w2.heap.size := by have := hb.size; (try simp at this); omega
      clear hb
      first | (have gsw2w1 : w1.heap.size < w2.heap.size := by omega) | skip
      go_wp2_with fail
      refine (O.out _).mono ?_
      rintro e w3 ⟨rfl, hb⟩
      have hsw3 := hb.size
      try simp at hsw3
      obtain ⟨hcw3, hfw3⟩ := bcell hb
      have HBw3 : Hid (Below w.heap.size w w3) := by
        apply Lib.hid
        refine Below.trans ?_ (hb.mono ?_)
        · repeat (first | exact Below.refl _ _ | exact HBw2.out | refine Below.setCell ?_ (by first | (simp; done) | omega | (simp; omega)) _ | refine Below.alloc ?_ (by first | (simp; done) | omega | (simp; omega)) _)
        · first | (simp; done) | omega | (simp; omega)
      have hzw3 : w.heap.size < w3.heap.size := by have := hb.size; (try simp at this); omega
      clear hb
      first | (have gsw3w1 : w1.heap.size < w3.heap.size := by omega) | skip
      first | (have gsw3w2 : w2.heap.size < w3.heap.size := by omega) | skip
      go_wp2_with fail
      refine bodyPost_ret (v := .tuple #[.int .i64 0, .int .i64 0, .int .i64 6]) (by first | (simp [results, Tryd.results18, go_sem]; done) | (simp [results, Tryd.results18, go_sem, *]; done)) rfl ⟨rfl, ?_⟩
      repeat (first | exact Below.refl _ _ | exact HBw3.out | refine Below.setCell ?_ (by first | (simp; done) | omega | (simp; omega)) _ | refine Below.alloc ?_ (by first | (simp; done) | omega | (simp; omega)) _ | refine bel_drew ?_)
    · rw [decide_eq_false hz] at NE
      simp only [if_neg hz]
      clear hz
      generalize lonI (baX b r d) (baY b r d) = L at *
      generalize latI (baX b r d) (baY b r d) (baZ b r d) = M at *
      generalize baX b r d = P at *
      generalize baY b r d = Q at *
      generalize baZ b r d = R at *
      generalize dX r d = x at *
      generalize dY r d = y at *
      generalize sinI d = z at *
      go_enter Tryd.func18, Tryd.ntmps18
      go_wp2_with fail
      refine (CK.out _ _ (by simp) (by simp) (by simp)).mono ?_
      rintro e w' ⟨rfl, rfl⟩
      go_wp2_with fail
      refine (D.out _).mono ?_
      rintro e w1 ⟨rfl, hb⟩
      have hsw1 := hb.size
      try simp at hsw1
      obtain ⟨hcw1, hfw1⟩ := bcell hb
      have HBw1 : Hid (Below w.heap.size w w1) := by
        apply Lib.hid
        refine Below.trans ?_ (hb.mono ?_)
        · repeat (first | exact Below.refl _ _ | refine Below.setCell ?_ (by first | (simp; done) | omega | (simp; omega)) _ | refine Below.alloc ?_ (by first | (simp; done) | omega | (simp; omega)) _)
        · first | (simp; done) | omega | (simp; omega)
      have hzw1 : w.heap.size < w1.heap.size := by have := hb.size; (try simp at this); omega
      clear hb
      go_wp2_with fail
      refine (R0.out _).mono ?_
      rintro e w2 ⟨rfl, hb⟩
      have hsw2 := hb.size
      try simp at hsw2
      obtain ⟨hcw2, hfw2⟩ := bcell hb
      have HBw2 : Hid (Below w.heap.size w w2) := by
        apply Lib.hid
        refine Below.trans ?_ (hb.mono ?_)
        · repeat (first | exact Below.refl _ _ | exact HBw1.out | refine Below.setCell ?_ (by first | (simp; done) | omega | (simp; omega)) _ | refine Below.alloc ?_ (by first | (simp; done) | omega | (simp; omega)) _)
        · first | (simp; done) | omega | (simp; omega)
      have hzw2 : w.heap.size < w2.heap.size := by have := hb.size; (try simp at this); omega
      clear hb
      first | (have gsw2w1 : w1.heap.size < w2.heap.size := by omega) | skip
      go_wp2_with fail
      refine (O.out _).mono ?_
      rintro e w3 ⟨rfl, hb⟩
      have hsw3 := hb.size
      try simp at hsw3
      obtain ⟨hcw3, hfw3⟩ := bcell hb
      have HBw3 : Hid (Below w.heap.size w w3) := by
        apply Lib.hid
        refine Below.trans ?_ (hb.mono ?_)
        · repeat (first | exact Below.refl _ _ | exact HBw2.out | refine Below.setCell ?_ (by first | (simp; done) | omega | (simp; omega)) _ | refine Below.alloc ?_ (by first | (simp; done) | omega | (simp; omega)) _)
        · first | (simp; done) | omega | (simp; omega)
      have hzw3 : w.heap.size < w3.heap.size := by have := hb.size; (try simp at this); omega
      clear hb
      first | (have gsw3w1 : w1.heap.size < w3.heap.size := by omega) | skip
      first | (have gsw3w2 : w2.heap.size < w3.heap.size := by omega) | skip
      go_wp2_with fail
      refine (G.out _).mono ?_
      rintro e w4 ⟨rfl, hb⟩
      have hsw4 := hb.size
      try simp at hsw4
      obtain ⟨hcw4, hfw4⟩ := bcell hb
      have HBw4 : Hid (Below w.heap.size w w4) := by
        apply Lib.hid
        refine Below.trans ?_ (hb.mono ?_)
        · repeat (first | exact Below.refl _ _ | exact HBw3.out | refine Below.setCell ?_ (by first | (simp; done) | omega | (simp; omega)) _ | refine Below.alloc ?_ (by first | (simp; done) | omega | (simp; omega)) _)
        · first | (simp; done) | omega | (simp; omega)
      have hzw4 : w.heap.size < w4.heap.size := by have := hb.size; (try simp at this); omega
      clear hb
      first | (have gsw4w1 : w1.heap.size < w4.heap.size := by omega) | skip
      first | (have gsw4w2 : w2.heap.size < w4.heap.size := by omega) | skip
      first | (have gsw4w3 : w3.heap.size < w4.heap.size := by omega) | skip
      go_wp2_with fail
      refine (N.out _).mono ?_
      rintro e w' ⟨rfl, rfl⟩
      go_wp2_with fail
      refine bodyPost_ret (v := .tuple #[.int .i64 Z0, .int .i64 M, .int .i64 0]) (by first | (simp [results, Tryd.results18, go_sem]; done) | (simp [results, Tryd.results18, go_sem, *]; done)) rfl ⟨rfl, ?_⟩
      repeat (first | exact Below.refl _ _ | exact HBw4.out | refine Below.setCell ?_ (by first | (simp; done) | omega | (simp; omega)) _ | refine Below.alloc ?_ (by first | (simp; done) | omega | (simp; omega)) _ | refine bel_drew ?_)
  · rw [if_neg h]
    generalize askI s a b sid r d = k at *
    have hk : (k == 0) = false := by simpa using h
    clear h
    go_enter Tryd.func18, Tryd.ntmps18
    go_wp2_with fail
    refine (CK.out _ _ (by simp) (by simp) (by simp)).mono ?_
    rintro e w' ⟨rfl, rfl⟩
    go_wp2_with fail
    refine bodyPost_ret (v := .tuple #[.int .i64 0, .int .i64 0, .int .i64 k]) (by first | (simp [results, Tryd.results18, go_sem]; done) | (simp [results, Tryd.results18, go_sem, *]; done)) rfl ⟨rfl, ?_⟩
    repeat (first | exact Below.refl _ _ | refine Below.setCell ?_ (by first | (simp; done) | omega | (simp; omega)) _ | refine Below.alloc ?_ (by first | (simp; done) | omega | (simp; omega)) _ | refine bel_drew ?_)
end Go.Proofs.YtoellkbmhpekdaaDoor
