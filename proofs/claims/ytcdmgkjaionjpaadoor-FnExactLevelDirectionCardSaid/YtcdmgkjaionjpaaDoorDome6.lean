/-
  Directions in the frame of a tilted dome in package impl: the contracts of turned, TiltedDirection, LevelDirection.
-/
import Derived.Test.YtcdmgkjaionjpaaDoorDome5
import Derived.Test.YtcdmgkjaionjpaaDoorQ2
namespace Go.Proofs.YtcdmgkjaionjpaaDoor
open Go.RowKit
set_option linter.unusedVariables false

set_option maxRecDepth 100000 in
set_option maxHeartbeats 2000000 in
theorem turnedTilt_any (s : ByteArray) (r b u v : Int) (hmax : s.size ≤ maxLen) (fu : fits u) (fv : fits v) (w : World) (hs : SinesOK w) :
    Calls Tryd.prog 50 #[.agg #[.string s, .int .i64 r, .int .i64 b], .agg #[.int .i64 u, .int .i64 v], .func (.func 51) #[.agg #[.string s, .int .i64 r, .int .i64 b]] #[]] w fun e w' => e = .returned (tiltV s r b u v) ∧ Below w.heap.size w w' := by
  unfold tiltV turnV
  have VD := Lib.hid (fun w => validDome_any s r b hmax w)
  have DI := Lib.hid (fun w => dirValid_any u v w)
  have E := Lib.hid hs
  clear hs hmax fu fv
  obtain ⟨W0, hW0⟩ : ∃ W0, W0 = ((w.alloc (.cells #[.string s, .int .i64 r, .int .i64 b] 37)).alloc (.cells #[.int .i64 u, .int .i64 v] 57)) := ⟨_, rfl⟩
  have K0 : Hid (W0.cell? ⟨w.heap.size + 1, 0, none⟩ = some (.int .i64 u) ∧ W0.cell? ⟨w.heap.size + 1, 1, none⟩ = some (.int .i64 v) ∧ Below w.heap.size w W0) := Lib.hid (by rw [hW0]; exact ⟨by first | (simp; done) | (rw [World.cell?_alloc_at _ _ _ _ (by first | (simp; done) | (simp; omega))]; rfl), by first | (simp; done) | (rw [World.cell?_alloc_at _ _ _ _ (by first | (simp; done) | (simp; omega))]; rfl), by repeat (first | exact Below.refl _ _ | refine Below.alloc ?_ (by first | (simp; done) | (simp; omega)) _)⟩)
  have SZ : Hid (W0.heap.size = w.heap.size + 1 + 1) := Lib.hid (by rw [hW0]; simp)
  have HW := Lib.hid hW0
  clear hW0
  cases hd : domeB s r b with
  | false =>
    rw [if_neg (by simp)]
    rw [hd] at VD
    clear hd
    go_enter Tryd.func50, Tryd.ntmps50
    obtain ⟨k0, k1, k2⟩ := K0.out
    go_wp2_with fail
    rw [← HW.out]
    clear HW
    refine (VD.out _).mono ?_
    rintro e w1 ⟨rfl, hb⟩
    have K1 := Lib.hid (keepW2 K0.out hb)
    clear hb k0 k1 k2
    obtain ⟨k0, k1, k2⟩ := K1.out
    go_wp2_with fail
    have HBx := Lib.hid K1.out.2.2
    refine bodyPost_ret (v := .tuple #[.int .i64 0, .int .i64 0, .int .i64 1]) (by first | (simp [results, Tryd.results50, go_sem]; done) | (simp [results, Tryd.results50, go_sem]; done)) rfl ⟨rfl, ?_⟩
    repeat (first | exact Below.refl _ _ | exact HBx.out | refine Below.setCell ?_ (by first | (simp; done) | omega | (simp; omega)) _ | refine Below.alloc ?_ (by first | (simp; done) | omega | (simp; omega)) _ | refine bel_drew ?_)
  | true =>
    rw [if_pos rfl]
    rw [hd] at VD
    have hbd := (domeB_bd hd).2
    clear hd
    cases hu : dirB u v with
    | false =>
      rw [if_neg (by simp)]
      rw [hu] at DI
      clear hu
      go_enter Tryd.func50, Tryd.ntmps50
      obtain ⟨k0, k1, k2⟩ := K0.out
      go_wp2_with fail
      rw [← HW.out]
      clear HW
      refine (VD.out _).mono ?_
      rintro e w1 ⟨rfl, hb⟩
      have K1 := Lib.hid (keepW2 K0.out hb)
      clear hb k0 k1 k2
      obtain ⟨k0, k1, k2⟩ := K1.out
      go_wp2_with fail
      refine (DI.out _).mono ?_
      rintro e w2 ⟨rfl, hb⟩
      have K2 := Lib.hid (keepW2 K1.out hb)
      clear hb k0 k1 k2
      obtain ⟨k0, k1, k2⟩ := K2.out
      go_wp2_with fail
      have HBx := Lib.hid K2.out.2.2
      refine bodyPost_ret (v := .tuple #[.int .i64 0, .int .i64 0, .int .i64 2]) (by first | (simp [results, Tryd.results50, go_sem]; done) | (simp [results, Tryd.results50, go_sem]; done)) rfl ⟨rfl, ?_⟩
      repeat (first | exact Below.refl _ _ | exact HBx.out | refine Below.setCell ?_ (by first | (simp; done) | omega | (simp; omega)) _ | refine Below.alloc ?_ (by first | (simp; done) | omega | (simp; omega)) _ | refine bel_drew ?_)
    | true =>
      rw [if_pos rfl]
      rw [hu] at DI
      obtain ⟨⟨u0, u1⟩, v0, v1⟩ := dirB_bd hu
      have O := Lib.hid (fun w hs => overFloor_any u v u0 u1 v0 v1 w hs)
      have T := Lib.hid (fun w hs => tilted_any s r b (dX (90000 - u) v) (dY (90000 - u) v) (sinI v) hbd.1 hbd.2 (inV_2 (dir_in _ _)) w hs)
      change Hid (∀ w, SinesOK w → Calls Tryd.prog 51 #[.agg #[.string s, .int .i64 r, .int .i64 b], .agg #[.int .i64 (dX (90000 - u) v), .int .i64 (dY (90000 - u) v), .int .i64 (sinI v)]] w fun e w' => e = .returned (.agg #[.int .i64 (tvX u v), .int .i64 (tvY b u v), .int .i64 (tvZ b u v)]) ∧ Below w.heap.size w w') at T
      have G := Lib.hid (fun w hs => floorDir_any (tvX u v) (tvY b u v) (tvZ b u v) (tv_in b u v) w hs)
      have FD := fldF
      clear hu hbd
      generalize azI (tvX u v) (tvY b u v) = A at *
      generalize latI (tvX u v) (tvY b u v) (tvZ b u v) = B at *
      generalize tvX u v = X at *
      generalize tvY b u v = Y at *
      generalize tvZ b u v = Z at *
      generalize dX (90000 - u) v = x at *
      generalize dY (90000 - u) v = y at *
      generalize sinI v = z at *
      go_enter Tryd.func50, Tryd.ntmps50
      obtain ⟨k0, k1, k2⟩ := K0.out
      go_wp2_with fail
      rw [← HW.out]
      clear HW
      refine (VD.out _).mono ?_
      rintro e w1 ⟨rfl, hb⟩
      have K1 := Lib.hid (keepW2 K0.out hb)
      clear hb k0 k1 k2
      obtain ⟨k0, k1, k2⟩ := K1.out
      go_wp2_with fail
      refine (DI.out _).mono ?_
      rintro e w2 ⟨rfl, hb⟩
      have K2 := Lib.hid (keepW2 K1.out hb)
      clear hb k0 k1 k2
      obtain ⟨k0, k1, k2⟩ := K2.out
      go_wp2_with fail
      refine (O.out _ (E.out.below K2.out.2.2)).mono ?_
      rintro e w3 ⟨rfl, hb⟩
      have K3 := Lib.hid (keepW2 K2.out hb)
      clear hb k0 k1 k2
      obtain ⟨k0, k1, k2⟩ := K3.out
      go_wp2_with fail
      refine (T.out _ (E.out.below K3.out.2.2)).mono ?_
      rintro e w4 ⟨rfl, hb⟩
      have K4 := Lib.hid (keepW2 K3.out hb)
      clear hb k0 k1 k2
      obtain ⟨k0, k1, k2⟩ := K4.out
      go_wp2_with fail
      refine (G.out _ (E.out.below K4.out.2.2)).mono ?_
      rintro e w5 ⟨rfl, hb⟩
      have K5 := Lib.hid (keepW2 K4.out hb)
      clear hb k0 k1 k2
      obtain ⟨k0, k1, k2⟩ := K5.out
      go_wp2_with fail
      go_quiet (fail)
      rename Nat => nq
      go_wp2_with fail
      refine bodyPost_ret (v := .tuple #[.int .i64 A, .int .i64 B, .int .i64 0]) (by simp [results, Tryd.results50, go_sem]) rfl ⟨rfl, ?_⟩
      exact bel_drewN (K5.out.2.2.alloc K5.out.2.2.size _) _
set_option maxHeartbeats 1000000 in
theorem implTilt_any (s : ByteArray) (r b u v : Int) (hmax : s.size ≤ maxLen) (fu : fits u) (fv : fits v) (w : World) (hs : SinesOK w) :
    Calls Tryd.prog 21 #[.agg #[.string s, .int .i64 r, .int .i64 b], .int .i64 u, .int .i64 v] w fun e w' => e = .returned (tiltV s r b u v) ∧ Below w.heap.size w w' := by
  have T := Lib.hid (fun w hs => turnedTilt_any s r b u v hmax fu fv w hs)
  have E := Lib.hid hs
  clear hs hmax fu fv
  obtain ⟨x, y, c, hz⟩ := tiltV_form s r b u v
  rw [hz] at T ⊢
  clear hz
  go_enter Tryd.func21, Tryd.ntmps21
  go_wp2_with fail
  refine (T.out _ (E.out.below (by repeat (first | exact Below.refl _ _ | refine Below.setCell ?_ (by first | (simp; done) | omega | (simp; omega)) _ | refine Below.alloc ?_ (by first | (simp; done) | omega | (simp; omega)) _ | refine bel_drew ?_)))).mono ?_
  rintro e w1 ⟨rfl, hb⟩
  have hsw1 := hb.size
  try simp at hsw1
  obtain ⟨hcw1, hfw1⟩ := bcell hb
  have HBw1 : Hid (Below w.heap.size w w1) := by
    apply Lib.hid
    refine Below.trans ?_ (hb.mono ?_)
    · repeat (first | exact Below.refl _ _ | refine Below.setCell ?_ (by first | (simp; done) | omega | (simp; omega)) _ | refine Below.alloc ?_ (by first | (simp; done) | omega | (simp; omega)) _)
    · first | (simp; done) | omega | (simp; omega)
  have hzw1 : w.heap.size < w1.heap.size := by have := hb.size; (try simp at this); omega
  clear hb
  go_wp2_with fail
  refine bodyPost_ret (v := .tuple #[.int .i64 x, .int .i64 y, .int .i64 c]) (by first | (simp [results, Tryd.results21, go_sem]; done) | (simp [results, Tryd.results21, go_sem]; done)) rfl ⟨rfl, ?_⟩
  repeat (first | exact Below.refl _ _ | exact HBw1.out | refine Below.setCell ?_ (by first | (simp; done) | omega | (simp; omega)) _ | refine Below.alloc ?_ (by first | (simp; done) | omega | (simp; omega)) _ | refine bel_drew ?_)
set_option maxRecDepth 100000 in
set_option maxHeartbeats 2000000 in
theorem turnedLevel_any (s : ByteArray) (r b u v : Int) (hmax : s.size ≤ maxLen) (fu : fits u) (fv : fits v) (w : World) (hs : SinesOK w) :
    Calls Tryd.prog 50 #[.agg #[.string s, .int .i64 r, .int .i64 b], .agg #[.int .i64 u, .int .i64 v], .func (.func 52) #[.agg #[.string s, .int .i64 r, .int .i64 b]] #[]] w fun e w' => e = .returned (levelV s r b u v) ∧ Below w.heap.size w w' := by
  unfold levelV turnV
  have VD := Lib.hid (fun w => validDome_any s r b hmax w)
  have DI := Lib.hid (fun w => dirValid_any u v w)
  have E := Lib.hid hs
  clear hs hmax fu fv
  obtain ⟨W0, hW0⟩ : ∃ W0, W0 = ((w.alloc (.cells #[.string s, .int .i64 r, .int .i64 b] 37)).alloc (.cells #[.int .i64 u, .int .i64 v] 57)) := ⟨_, rfl⟩
  have K0 : Hid (W0.cell? ⟨w.heap.size + 1, 0, none⟩ = some (.int .i64 u) ∧ W0.cell? ⟨w.heap.size + 1, 1, none⟩ = some (.int .i64 v) ∧ Below w.heap.size w W0) := Lib.hid (by rw [hW0]; exact ⟨by first | (simp; done) | (rw [World.cell?_alloc_at _ _ _ _ (by first | (simp; done) | (simp; omega))]; rfl), by first | (simp; done) | (rw [World.cell?_alloc_at _ _ _ _ (by first | (simp; done) | (simp; omega))]; rfl), by repeat (first | exact Below.refl _ _ | refine Below.alloc ?_ (by first | (simp; done) | (simp; omega)) _)⟩)
  have SZ : Hid (W0.heap.size = w.heap.size + 1 + 1) := Lib.hid (by rw [hW0]; simp)
  have HW := Lib.hid hW0
  clear hW0
  cases hd : domeB s r b with
  | false =>
    rw [if_neg (by simp)]
    rw [hd] at VD
    clear hd
    go_enter Tryd.func50, Tryd.ntmps50
    obtain ⟨k0, k1, k2⟩ := K0.out
    go_wp2_with fail
    rw [← HW.out]
    clear HW
    refine (VD.out _).mono ?_
    rintro e w1 ⟨rfl, hb⟩
    have K1 := Lib.hid (keepW2 K0.out hb)
    clear hb k0 k1 k2
    obtain ⟨k0, k1, k2⟩ := K1.out
    go_wp2_with fail
    have HBx := Lib.hid K1.out.2.2
    refine bodyPost_ret (v := .tuple #[.int .i64 0, .int .i64 0, .int .i64 1]) (by first | (simp [results, Tryd.results50, go_sem]; done) | (simp [results, Tryd.results50, go_sem]; done)) rfl ⟨rfl, ?_⟩
    repeat (first | exact Below.refl _ _ | exact HBx.out | refine Below.setCell ?_ (by first | (simp; done) | omega | (simp; omega)) _ | refine Below.alloc ?_ (by first | (simp; done) | omega | (simp; omega)) _ | refine bel_drew ?_)
  | true =>
    rw [if_pos rfl]
    rw [hd] at VD
    have hbd := (domeB_bd hd).2
    clear hd
    cases hu : dirB u v with
    | false =>
      rw [if_neg (by simp)]
      rw [hu] at DI
      clear hu
      go_enter Tryd.func50, Tryd.ntmps50
      obtain ⟨k0, k1, k2⟩ := K0.out
      go_wp2_with fail
      rw [← HW.out]
      clear HW
      refine (VD.out _).mono ?_
      rintro e w1 ⟨rfl, hb⟩
      have K1 := Lib.hid (keepW2 K0.out hb)
      clear hb k0 k1 k2
      obtain ⟨k0, k1, k2⟩ := K1.out
      go_wp2_with fail
      refine (DI.out _).mono ?_
      rintro e w2 ⟨rfl, hb⟩
      have K2 := Lib.hid (keepW2 K1.out hb)
      clear hb k0 k1 k2
      obtain ⟨k0, k1, k2⟩ := K2.out
      go_wp2_with fail
      have HBx := Lib.hid K2.out.2.2
      refine bodyPost_ret (v := .tuple #[.int .i64 0, .int .i64 0, .int .i64 2]) (by first | (simp [results, Tryd.results50, go_sem]; done) | (simp [results, Tryd.results50, go_sem]; done)) rfl ⟨rfl, ?_⟩
      repeat (first | exact Below.refl _ _ | exact HBx.out | refine Below.setCell ?_ (by first | (simp; done) | omega | (simp; omega)) _ | refine Below.alloc ?_ (by first | (simp; done) | omega | (simp; omega)) _ | refine bel_drew ?_)
    | true =>
      rw [if_pos rfl]
      rw [hu] at DI
      obtain ⟨⟨u0, u1⟩, v0, v1⟩ := dirB_bd hu
      have O := Lib.hid (fun w hs => overFloor_any u v u0 u1 v0 v1 w hs)
      have T := Lib.hid (fun w hs => levelled_any s r b (dX (90000 - u) v) (dY (90000 - u) v) (sinI v) hbd.1 hbd.2 (inV_2 (dir_in _ _)) w hs)
      change Hid (∀ w, SinesOK w → Calls Tryd.prog 52 #[.agg #[.string s, .int .i64 r, .int .i64 b], .agg #[.int .i64 (dX (90000 - u) v), .int .i64 (dY (90000 - u) v), .int .i64 (sinI v)]] w fun e w' => e = .returned (.agg #[.int .i64 (tvX u v), .int .i64 (tvY (-b) u v), .int .i64 (tvZ (-b) u v)]) ∧ Below w.heap.size w w') at T
      have G := Lib.hid (fun w hs => floorDir_any (tvX u v) (tvY (-b) u v) (tvZ (-b) u v) (tv_in (-b) u v) w hs)
      have FD := fldF
      clear hu hbd
      generalize azI (tvX u v) (tvY (-b) u v) = A at *
      generalize latI (tvX u v) (tvY (-b) u v) (tvZ (-b) u v) = B at *
      generalize tvX u v = X at *
      generalize tvY (-b) u v = Y at *
      generalize tvZ (-b) u v = Z at *
      generalize dX (90000 - u) v = x at *
      generalize dY (90000 - u) v = y at *
      generalize sinI v = z at *
      go_enter Tryd.func50, Tryd.ntmps50
      obtain ⟨k0, k1, k2⟩ := K0.out
      go_wp2_with fail
      rw [← HW.out]
      clear HW
      refine (VD.out _).mono ?_
      rintro e w1 ⟨rfl, hb⟩
      have K1 := Lib.hid (keepW2 K0.out hb)
      clear hb k0 k1 k2
      obtain ⟨k0, k1, k2⟩ := K1.out
      go_wp2_with fail
      refine (DI.out _).mono ?_
      rintro e w2 ⟨rfl, hb⟩
      have K2 := Lib.hid (keepW2 K1.out hb)
      clear hb k0 k1 k2
      obtain ⟨k0, k1, k2⟩ := K2.out
      go_wp2_with fail
      refine (O.out _ (E.out.below K2.out.2.2)).mono ?_
      rintro e w3 ⟨rfl, hb⟩
      have K3 := Lib.hid (keepW2 K2.out hb)
      clear hb k0 k1 k2
      obtain ⟨k0, k1, k2⟩ := K3.out
      go_wp2_with fail
      refine (T.out _ (E.out.below K3.out.2.2)).mono ?_
      rintro e w4 ⟨rfl, hb⟩
      have K4 := Lib.hid (keepW2 K3.out hb)
      clear hb k0 k1 k2
      obtain ⟨k0, k1, k2⟩ := K4.out
      go_wp2_with fail
      refine (G.out _ (E.out.below K4.out.2.2)).mono ?_
      rintro e w5 ⟨rfl, hb⟩
      have K5 := Lib.hid (keepW2 K4.out hb)
      clear hb k0 k1 k2
      obtain ⟨k0, k1, k2⟩ := K5.out
      go_wp2_with fail
      go_quiet (fail)
      rename Nat => nq
      go_wp2_with fail
      refine bodyPost_ret (v := .tuple #[.int .i64 A, .int .i64 B, .int .i64 0]) (by simp [results, Tryd.results50, go_sem]) rfl ⟨rfl, ?_⟩
      exact bel_drewN (K5.out.2.2.alloc K5.out.2.2.size _) _
set_option maxHeartbeats 1000000 in
theorem implLevel_any (s : ByteArray) (r b u v : Int) (hmax : s.size ≤ maxLen) (fu : fits u) (fv : fits v) (w : World) (hs : SinesOK w) :
    Calls Tryd.prog 23 #[.agg #[.string s, .int .i64 r, .int .i64 b], .int .i64 u, .int .i64 v] w fun e w' => e = .returned (levelV s r b u v) ∧ Below w.heap.size w w' := by
  have T := Lib.hid (fun w hs => turnedLevel_any s r b u v hmax fu fv w hs)
  have E := Lib.hid hs
  clear hs hmax fu fv
  obtain ⟨x, y, c, hz⟩ := levelV_form s r b u v
  rw [hz] at T ⊢
  clear hz
  go_enter Tryd.func23, Tryd.ntmps23
  go_wp2_with fail
  refine (T.out _ (E.out.below (by repeat (first | exact Below.refl _ _ | refine Below.setCell ?_ (by first | (simp; done) | omega | (simp; omega)) _ | refine Below.alloc ?_ (by first | (simp; done) | omega | (simp; omega)) _ | refine bel_drew ?_)))).mono ?_
  rintro e w1 ⟨rfl, hb⟩
  have hsw1 := hb.size
  try simp at hsw1
  obtain ⟨hcw1, hfw1⟩ := bcell hb
  have HBw1 : Hid (Below w.heap.size w w1) := by
    apply Lib.hid
    refine Below.trans ?_ (hb.mono ?_)
    · repeat (first | exact Below.refl _ _ | refine Below.setCell ?_ (by first | (simp; done) | omega | (simp; omega)) _ | refine Below.alloc ?_ (by first | (simp; done) | omega | (simp; omega)) _)
    · first | (simp; done) | omega | (simp; omega)
  have hzw1 : w.heap.size < w1.heap.size := by have := hb.size; (try simp at this); omega
  clear hb
  go_wp2_with fail
  refine bodyPost_ret (v := .tuple #[.int .i64 x, .int .i64 y, .int .i64 c]) (by first | (simp [results, Tryd.results23, go_sem]; done) | (simp [results, Tryd.results23, go_sem]; done)) rfl ⟨rfl, ?_⟩
  repeat (first | exact Below.refl _ _ | exact HBw1.out | refine Below.setCell ?_ (by first | (simp; done) | omega | (simp; omega)) _ | refine Below.alloc ?_ (by first | (simp; done) | omega | (simp; omega)) _ | refine bel_drew ?_)
end Go.Proofs.YtcdmgkjaionjpaaDoor
