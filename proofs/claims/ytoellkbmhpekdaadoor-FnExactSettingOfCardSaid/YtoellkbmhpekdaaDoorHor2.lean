/-
  The direction of a star over a site in package impl: the contract of horizontal.
-/
import Derived.Test.YtoellkbmhpekdaaDoorHor1
import Derived.Deep.Cut
namespace Go.Proofs.YtoellkbmhpekdaaDoor
open Go.RowKit
set_option linter.unusedVariables false

set_option maxHeartbeats 4000000 in
theorem horiz_any (s : ByteArray) (a b sid r d : Int) (p0 : -90000 ≤ b) (p1 : b ≤ 90000) (s0 : 0 ≤ sid) (s1 : sid ≤ 360000) (r0 : 0 ≤ r) (r1 : r ≤ 360000) (d0 : -90000 ≤ d) (d1 : d ≤ 90000) (w : World) (hs : SinesOK w) :
    Calls Tryd.prog 37 #[.agg #[.string s, .int .i64 a, .int .i64 b, .int .i64 sid], .agg #[.int .i64 r, .int .i64 d]] w fun e w' => e = .returned (.tuple #[.agg #[.int .i64 (hoP b (r - sid) d), .int .i64 (hoQ b (r - sid) d), .int .i64 (hoR b (r - sid) d)], .int .i64 0]) ∧ Below w.heap.size w w' := by
  have T := Lib.hid (fun w hs => dirTow_any (r - sid) d ⟨by omega, by omega⟩ w hs)
  rw [dirT_in _ _ d0 d1] at T
  have R := Lib.hid (fun w hs => implRot_any (dX (r - sid) d) (dY (r - sid) d) (sinI d) 2 b (by omega) (by omega) w hs)
  rw [rot_ok _ _ _ _ (dir_in _ _)] at R
  have EX := Lib.hid (fun w => exch_any (hoR b (r - sid) d) (hoQ b (r - sid) d) (hoP b (r - sid) d) w)
  unfold hoP hoQ hoR at EX ⊢
  have E := Lib.hid hs
  clear hs
  simp only at T
  generalize roX 2 (dX (r - sid) d) (dY (r - sid) d) (sinI d) (sinI b) (cosI b) = X at *
  generalize roY 2 (dX (r - sid) d) (dY (r - sid) d) (sinI d) (sinI b) (cosI b) = Y at *
  generalize roZ 2 (dX (r - sid) d) (dY (r - sid) d) (sinI d) (sinI b) (cosI b) = Z at *
  generalize dX (r - sid) d = x at *
  generalize dY (r - sid) d = y at *
  generalize sinI d = z at *
  obtain ⟨W0, hW0⟩ : ∃ W0, W0 = (((w.alloc (.cells #[.string s, .int .i64 a, .int .i64 b, .int .i64 sid] 54)).alloc (.cells #[.int .i64 r, .int .i64 d] 56)).alloc (.cells #[.int .i64 0, .int .i64 0, .int .i64 0] 26)).alloc (.cells #[.int .i64 (r - sid), .int .i64 d] 56) := ⟨_, rfl⟩
  have K0 : Hid (W0.cell? ⟨w.heap.size, 2, none⟩ = some (.int .i64 b) ∧ W0.cell? ⟨w.heap.size + 1 + 1 + 1, 0, none⟩ = some (.int .i64 (r - sid)) ∧ W0.cell? ⟨w.heap.size + 1 + 1 + 1, 1, none⟩ = some (.int .i64 d) ∧ Below W0.heap.size W0 W0) := Lib.hid (by rw [hW0]; exact ⟨by rw [World.cell?_alloc_lt _ _ _ (by first | (simp; done) | (simp; omega)), World.cell?_alloc_lt _ _ _ (by first | (simp; done) | (simp; omega))]; simp, by rw [World.cell?_alloc_at _ _ _ _ (by first | (simp; done) | (simp; omega))]; rfl, by rw [World.cell?_alloc_at _ _ _ _ (by first | (simp; done) | (simp; omega))]; rfl, Below.refl _ _⟩)
  have R0 : Hid (C3 W0 (w.heap.size + 1 + 1) 0 0 0) := Lib.hid (by rw [hW0]; simpa using (C3.new ((w.alloc (.cells #[.string s, .int .i64 a, .int .i64 b, .int .i64 sid] 54)).alloc (.cells #[.int .i64 r, .int .i64 d] 56)) 26 0 0 0).alloc (by simp) (.cells #[.int .i64 (r - sid), .int .i64 d] 56))
  have HB0 : Hid (Below w.heap.size w W0) := Lib.hid (by rw [hW0]; repeat (first | exact Below.refl _ _ | refine Below.alloc ?_ (by first | (simp; done) | (simp; omega)) _))
  have HW := Lib.hid hW0
  clear hW0
  go_enter Tryd.func37, Tryd.ntmps37
  go_wp2_with fail
  rw [← HW.out]
  clear HW
  have E0 := Lib.hid (E.out.below HB0.out)
  obtain ⟨k0, k1, k2, k3⟩ := K0.out
  go_cut [7, 8] from 9 (fun sp sc wx => ∃ r : Nat, sp = .pointer (some ⟨r, 0, none⟩) ∧ sc = .int .i64 0 ∧ Hid (C3 wx r X Y Z) ∧ Hid (Below W0.heap.size W0 wx))
  case first =>
    go_region_held3 (fun w' => w'.cell? ⟨w.heap.size, 2, none⟩ = some (.int .i64 b) ∧ w'.cell? ⟨w.heap.size + 1 + 1 + 1, 0, none⟩ = some (.int .i64 (r - sid)) ∧ w'.cell? ⟨w.heap.size + 1 + 1 + 1, 1, none⟩ = some (.int .i64 d) ∧ Below W0.heap.size W0 w') (first | (exact keepA3 K0.out (bel_drew (Below.refl _ _))) | (exact keepA3 K0.out y2) | (exact keepA3 K0.out y1) | (exact keepA3 K0.out (y2.alloc y2.size _)) | (exact keepA3 K0.out (y1.alloc y1.size _)) | (exact keepA3 K0.out ((bel_drew (Below.refl _ _)).alloc (Nat.le_refl _) _)) | (exact keepA3 K0.out (((y2.setCell y2.size _).setCell y2.size _).setCell y2.size _)) | (exact keepA3 K0.out (((y2.setCell y1.size _).setCell y1.size _).setCell y1.size _)) | (exact keepA3 K0.out (((y2.setCell (Nat.le_refl _) _).setCell (Nat.le_refl _) _).setCell (Nat.le_refl _) _)) | go_keep) ((first
      | (go_at_call 73; (with_reducible refine (T.out _ (SinesOK.below E0.out (by first | exact bel_drew (Below.refl _ _) | exact ((Below.refl _ _).alloc (Nat.le_refl _) _) | exact bel_drew ((Below.refl _ _).alloc (Nat.le_refl _) _) | exact (bel_drew (Below.refl _ _)).alloc (Nat.le_refl _) _))).mono ?_); rintro e x1 ⟨rfl, hx1⟩; (first | have y1 := undrewD hx1 | have y1 := undrewA hx1 | have y1 := undrew hx1))
      | (go_at_call 72; (with_reducible refine (R.out _ (SinesOK.below E0.out (by first | exact y1 | exact y1.alloc y1.size _))).mono ?_); rintro e x2 ⟨rfl, hx2⟩; (first | have y2 := onwardA y1 hx2 | have y2 := onward y1 hx2); (first | (have r := C3.late hx2; have rr := Lib.hid r; obtain ⟨q0, q1, q2, q3, q4, q5⟩ := r) | (have r := (C3.late hx1).on hx2; have rr := Lib.hid r; obtain ⟨q0, q1, q2, q3, q4, q5⟩ := r) | (have r := (C3.lateD hx1).on hx2; have rr := Lib.hid r; obtain ⟨q0, q1, q2, q3, q4, q5⟩ := r) | skip))))
    all_goals
      rename_i held
      have S1 := Lib.hid held.2.2.2
      clear held
      go_wp2_with fail
      go_meet
      case rel => first | exact ⟨_, rfl, rfl, Lib.hid (C3.new _ _ _ _ _), S1⟩ | exact ⟨_, rfl, rfl, Lib.hid (C3.stored rr.out _ _ _), S1⟩
  case rest =>
    obtain ⟨q, rfl, rfl, CQ, S2⟩ := hcut
    obtain ⟨q0, q1, q2, _, _, _⟩ := CQ.out
    have R1 := R0.out.on S2.out
    have HR1 := Lib.hid R1
    have HB1 := Lib.hid (HB0.out.trans (S2.out.mono HB0.out.size))
    clear R1 k0 k1 k2 k3 K0 CQ
    go_wp2_with fail
    refine (EX.out _).mono ?_
    rintro e x1 ⟨rfl, hb⟩
    have R2 := HR1.out.on hb
    have HB2 := Lib.hid (HB1.out.trans (hb.mono HB1.out.size))
    clear hb q0 q1 q2
    obtain ⟨r0', r1', r2', r3', r4', r5'⟩ := R2
    go_wp2_with fail
    refine bodyPost_ret (v := .tuple #[.agg #[.int .i64 Z, .int .i64 Y, .int .i64 X], .int .i64 0]) (by first | (simp [results, Tryd.results37, go_sem]; done) | (simp [results, Tryd.results37, go_sem, *]; done)) rfl ⟨rfl, ?_⟩
    repeat (first | exact Below.refl _ _ | exact HB2.out | refine Below.setCell ?_ (by first | (simp; done) | omega | (simp; omega)) _ | refine Below.alloc ?_ (by first | (simp; done) | omega | (simp; omega)) _ | refine bel_drew ?_)
end Go.Proofs.YtoellkbmhpekdaaDoor
