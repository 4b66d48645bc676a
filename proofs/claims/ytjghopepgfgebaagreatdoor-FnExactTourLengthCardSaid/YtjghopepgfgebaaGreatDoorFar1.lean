/-
  The distance of two stars: the contracts of distanceOf at two stars (package impl) and of l08Far (package spec).
-/
import Derived.Test.YtjghopepgfgebaaGreatDoorNear2
import Derived.Test.YtjghopepgfgebaaGreatDoorSSep
import Derived.Test.YtjghopepgfgebaaGreatDoorBelow3
import Derived.Deep.RegionHeld3
import Derived.Deep.RegionWith
import Derived.StillTailTactics
namespace Go.Proofs.YtjghopepgfgebaaGreatDoor
open Go.RowKit
set_option linter.unusedVariables false

/-- The distance of two stars as a number. -/
def farN (x y : StarV) : Int := sepN (dirT x.a x.b) (dirT y.a y.b)

theorem distSS_any (s : ByteArray) (a b c e : Int) (fa : fits a) (s' : ByteArray) (a' b' c' e' : Int) (fa' : fits a') (w : World) (hs : SinesOK w) :
    Calls Tryz.prog 68 #[sightS s a b c e, sightS s' a' b' c' e'] w fun r w' => r = .returned (.int .i64 (sepN (dirT a b) (dirT a' b'))) ∧ Below w.heap.size w w' := by
  obtain ⟨d, hd⟩ := sepN_eq (dirT a b) (dirT a' b')
  have S := Lib.hid (fun w hs => starTow_any s a b c e fa w hs)
  have T := Lib.hid (fun w hs => starTow_any s' a' b' c' e' fa' w hs)
  have F := Lib.hid (fun w hs => implSep_any (dirT a b).1 (dirT a b).2.1 (dirT a b).2.2 (dirT a' b').1 (dirT a' b').2.1 (dirT a' b').2.2 w hs)
  rw [hd] at F
  have E := Lib.hid hs
  clear hs hd fa fa'
  generalize sepN (dirT a b) (dirT a' b') = n at *
  generalize (dirT a b).1 = x at *
  generalize (dirT a b).2.1 = y at *
  generalize (dirT a b).2.2 = z at *
  generalize (dirT a' b').1 = x' at *
  generalize (dirT a' b').2.1 = y' at *
  generalize (dirT a' b').2.2 = z' at *
  unfold sightS
  go_enter Tryz.func68, Tryz.ntmps68
  go_wp2_with fail
  refine (S.out _ E.out).mono ?_
  rintro r w1 ⟨rfl, hb⟩
  have H1 := Lib.hid hb
  clear hb S
  go_wp2_with fail
  refine (T.out _ (E.out.below H1.out)).mono ?_
  rintro r w2 ⟨rfl, hb⟩
  have H2 := Lib.hid (H1.out.trans (hb.mono H1.out.size))
  clear hb T
  go_wp2_with fail
  refine (F.out _ (E.out.below H2.out)).mono ?_
  rintro r w3 ⟨rfl, hb⟩
  have H3 := Lib.hid (H2.out.trans (hb.mono H2.out.size))
  clear hb F
  go_wp2_with fail
  exact bodyPost_ret (v := .int .i64 n) (by simp [results, Tryz.results68, go_sem]) rfl ⟨rfl, H3.out⟩

theorem pr6 (a b : Int) (ha0 : -1000000 ≤ a) (ha1 : a ≤ 1000000) (hb0 : -1000000 ≤ b) (hb1 : b ≤ 1000000) : -1000000000000 ≤ a * b ∧ a * b ≤ 1000000000000 := by
  have h1 := Int.mul_nonneg (show 0 ≤ 1000000 - a by omega) (show 0 ≤ 1000000 - b by omega)
  have h2 := Int.mul_nonneg (show 0 ≤ 1000000 + a by omega) (show 0 ≤ 1000000 + b by omega)
  have h3 := Int.mul_nonneg (show 0 ≤ 1000000 - a by omega) (show 0 ≤ 1000000 + b by omega)
  have h4 := Int.mul_nonneg (show 0 ≤ 1000000 + a by omega) (show 0 ≤ 1000000 - b by omega)
  simp only [Int.sub_mul, Int.add_mul, Int.mul_sub, Int.mul_add] at h1 h2 h3 h4
  omega
theorem nf6 (n : Int) (h : -1000000000000 ≤ n ∧ n ≤ 1000000000000) : -1000000 ≤ nearQ n 1000000 ∧ nearQ n 1000000 ≤ 1000000 := by
  rcases (show n < 0 ∨ 0 ≤ n by omega) with c | c
  · rw [nearQ_np n 1000000 c (by omega)]; omega
  · rw [nearQ_pp n 1000000 c (by omega)]; omega
theorem dirT_val (a b : Int) (h : inR (-90000) 90000 [b] = true) : dirT a b = (nearQ (cosI b * cosI a) 1000000, nearQ (cosI b * sinI a) 1000000, sinI b) := by
  unfold dirT
  rw [if_pos h]
theorem dirT_inV (a b : Int) (h : inR (-90000) 90000 [b] = true) : inV 2000000 (dirT a b).1 (dirT a b).2.1 (dirT a b).2.2 := by
  rw [dirT_val a b h]
  show inV 2000000 (nearQ (cosI b * cosI a) 1000000) (nearQ (cosI b * sinI a) 1000000) (sinI b)
  have cb := cosI_bd b
  have ca := cosI_bd a
  have sa := sinI_bd a
  have sb := sinI_bd b
  have p1 := nf6 _ (pr6 (cosI b) (cosI a) cb.1 cb.2 ca.1 ca.2)
  have p2 := nf6 _ (pr6 (cosI b) (sinI a) cb.1 cb.2 sa.1 sa.2)
  exact ⟨⟨by omega, by omega⟩, ⟨by omega, by omega⟩, by omega, by omega⟩
theorem sepN_away (a b a' b' : Int) (h : inR (-90000) 90000 [b] = true) (h' : inR (-90000) 90000 [b'] = true) :
    ∃ t : Bool, awayV (crL (dirT a b).1 (dirT a b).2.1 (dirT a b).2.2 (dirT a' b').1 (dirT a' b').2.1 (dirT a' b').2.2) (dotI (dirT a b).1 (dirT a b).2.1 (dirT a b).2.2 (dirT a' b').1 (dirT a' b').2.1 (dirT a' b').2.2) = .tuple #[.int .i64 (sepN (dirT a b) (dirT a' b')), .bool t] := by
  have hv := dirT_inV a b h
  have hv' := dirT_inV a' b' h'
  unfold sepN sepV
  rw [(okV_bd _ _ _).2 hv, (okV_bd _ _ _).2 hv', if_pos rfl, if_pos rfl, atan_of _ _ (crL_bd _ _ _ _ _ _ hv hv') (dotI_bd _ _ _ _ _ _ hv hv')]
  unfold awayV
  split
  · exact ⟨false, rfl⟩
  · exact ⟨true, rfl⟩
theorem dirB_lat {a b : Int} (h : dirB a b = true) : inR (-90000) 90000 [b] = true ∧ 0 ≤ a ∧ a ≤ 359999 ∧ -90000 ≤ b ∧ b ≤ 90000 := by
  unfold dirB at h
  simp only [Bool.and_eq_true, inR_1] at h
  refine ⟨(inR_1 _ _ _).2 (by omega), ?_⟩
  omega

theorem keepF {w W W' : World} {b o b' o' : Nat} {xa xb ya yb : Int} (h : W.cell? ⟨b, o + 1, none⟩ = some (.int .i64 xa) ∧ W.cell? ⟨b, o + 2, none⟩ = some (.int .i64 xb) ∧ W.cell? ⟨b', o' + 1, none⟩ = some (.int .i64 ya) ∧ W.cell? ⟨b', o' + 2, none⟩ = some (.int .i64 yb) ∧ Below w.heap.size w W) (hb : Below W.heap.size W W') :
    W'.cell? ⟨b, o + 1, none⟩ = some (.int .i64 xa) ∧ W'.cell? ⟨b, o + 2, none⟩ = some (.int .i64 xb) ∧ W'.cell? ⟨b', o' + 1, none⟩ = some (.int .i64 ya) ∧ W'.cell? ⟨b', o' + 2, none⟩ = some (.int .i64 yb) ∧ Below w.heap.size w W' := by
  obtain ⟨h0, h1, k0, k1, hB⟩ := h
  have l0 := World.block_lt_of_cell? W ⟨b, o + 1, none⟩ h0
  have l1 := World.block_lt_of_cell? W ⟨b', o' + 1, none⟩ k0
  obtain ⟨c, _⟩ := bcell hb
  exact ⟨(c _ _ l0).trans h0, (c _ _ l0).trans h1, (c _ _ l1).trans k0, (c _ _ l1).trans k1, hB.trans (hb.mono hB.size)⟩

set_option maxRecDepth 100000 in
set_option maxHeartbeats 2000000 in
theorem far_any (b o b' o' : Nat) (x y : StarV) (hx : dirB x.a x.b = true) (hy : dirB y.a y.b = true) (w : World) (h1 : w.cell? ⟨b, o + 1, none⟩ = some (.int .i64 x.a)) (h2 : w.cell? ⟨b, o + 2, none⟩ = some (.int .i64 x.b)) (k1 : w.cell? ⟨b', o' + 1, none⟩ = some (.int .i64 y.a)) (k2 : w.cell? ⟨b', o' + 2, none⟩ = some (.int .i64 y.b)) :
    Calls Tryz.prog 63 #[.pointer (some ⟨b, o, none⟩), .pointer (some ⟨b', o', none⟩)] w fun e w' => e = .returned (.int .i64 (farN x y)) ∧ Below w.heap.size w w' := by
  obtain ⟨lx, x0, x1, x2, x3⟩ := dirB_lat hx
  obtain ⟨ly, y0, y1, y2, y3⟩ := dirB_lat hy
  obtain ⟨t, ht⟩ := sepN_away x.a x.b y.a y.b lx ly
  have S := Lib.hid (fun w => l04Direction_any x.a x.b (by omega) (by omega) (by omega) (by omega) w)
  have T := Lib.hid (fun w => l04Direction_any y.a y.b (by omega) (by omega) (by omega) (by omega) w)
  have F := Lib.hid (fun w => l04Away_any _ _ _ _ _ _ (dirT_inV x.a x.b lx) (dirT_inV y.a y.b ly) w)
  rw [ht] at F
  have e1 := dirT_val x.a x.b lx
  have e2 := dirT_val y.a y.b ly
  have S' : Hid (∀ w, Calls Tryz.prog 75 #[.int .i64 x.a, .int .i64 x.b] w fun e w' => e = .returned (.agg #[.int .i64 ((dirT x.a x.b).1), .int .i64 ((dirT x.a x.b).2.1), .int .i64 ((dirT x.a x.b).2.2)]) ∧ Below w.heap.size w w') := by rw [e1]; exact S
  have T' : Hid (∀ w, Calls Tryz.prog 75 #[.int .i64 y.a, .int .i64 y.b] w fun e w' => e = .returned (.agg #[.int .i64 ((dirT y.a y.b).1), .int .i64 ((dirT y.a y.b).2.1), .int .i64 ((dirT y.a y.b).2.2)]) ∧ Below w.heap.size w w') := by rw [e2]; exact T
  have hf : farN x y = sepN (dirT x.a x.b) (dirT y.a y.b) := rfl
  rw [hf]
  clear S T e1 e2 hf ht hx hy lx ly x0 x1 x2 x3 y0 y1 y2 y3
  generalize sepN (dirT x.a x.b) (dirT y.a y.b) = n at *
  generalize (dirT x.a x.b).1 = v0 at *
  generalize (dirT x.a x.b).2.1 = v1 at *
  generalize (dirT x.a x.b).2.2 = v2 at *
  generalize (dirT y.a y.b).1 = u0 at *
  generalize (dirT y.a y.b).2.1 = u1 at *
  generalize (dirT y.a y.b).2.2 = u2 at *
  have K : Hid (w.cell? ⟨b, o + 1, none⟩ = some (.int .i64 x.a) ∧ w.cell? ⟨b, o + 2, none⟩ = some (.int .i64 x.b) ∧ w.cell? ⟨b', o' + 1, none⟩ = some (.int .i64 y.a) ∧ w.cell? ⟨b', o' + 2, none⟩ = some (.int .i64 y.b) ∧ Below w.heap.size w w) := Lib.hid ⟨h1, h2, k1, k2, Below.refl _ w⟩
  clear h1 h2 k1 k2
  generalize x.a = xa at *
  generalize x.b = xb at *
  generalize y.a = ya at *
  generalize y.b = yb at *
  go_enter Tryz.func63, Tryz.ntmps63
  go_wp2_with fail
  go_region_held3 (fun W => W.cell? ⟨b, o + 1, none⟩ = some (.int .i64 xa) ∧ W.cell? ⟨b, o + 2, none⟩ = some (.int .i64 xb) ∧ W.cell? ⟨b', o' + 1, none⟩ = some (.int .i64 ya) ∧ W.cell? ⟨b', o' + 2, none⟩ = some (.int .i64 yb) ∧ Below w.heap.size w W) (first | (exact keepF K.out (drewS w)) | (exact keepF K.out z3) | (exact keepF K.out z2) | (exact keepF K.out z1) | go_keep) ((first
    | (go_at_call 75; (first
      | ((with_reducible refine (S'.out _).mono ?_); rintro e u1 ⟨rfl, hu1⟩; (first | have z2 := z1.trans (hu1.mono z1.size) | have z1 := undrewS hu1))
      | ((with_reducible refine (T'.out _).mono ?_); rintro e u2 ⟨rfl, hu2⟩; (first | have z2 := z1.trans (hu2.mono z1.size) | have z1 := undrewS hu2))))
    | (go_at_call 105; (with_reducible refine (F.out _).mono ?_); rintro e u3 ⟨rfl, hu3⟩; have z3 := z2.trans (hu3.mono z2.size))))
  all_goals
    rename_i held
    have HH := Lib.hid held.2.2.2.2
    clear held K
    go_wp2_with fail
    go_ret
    exact ⟨rfl, HH.out⟩
end Go.Proofs.YtjghopepgfgebaaGreatDoor
