/-
  l05Apart (package spec).
-/
import Derived.Test.YtoellkbmhpekdaaGreatDoorNear4
import Derived.Test.YtoellkbmhpekdaaGreatDoorSSep
import Derived.Test.YtoellkbmhpekdaaGreatDoorBelow3
import Derived.Deep.RegionHeld3
import Derived.Deep.RegionWith
import Derived.StillTailTactics
namespace Go.Proofs.YtoellkbmhpekdaaGreatDoor
open Go.RowKit
set_option linter.unusedVariables false

theorem apart_all {w W W' : World} {b o : Nat} {xa xb : Int} (h : W.cell? ⟨b, o + 1, none⟩ = some (.int .i64 xa) ∧ W.cell? ⟨b, o + 2, none⟩ = some (.int .i64 xb) ∧ Below w.heap.size w W) (hb : Below W.heap.size W W') :
    W'.cell? ⟨b, o + 1, none⟩ = some (.int .i64 xa) ∧ W'.cell? ⟨b, o + 2, none⟩ = some (.int .i64 xb) ∧ Below w.heap.size w W' := by
  obtain ⟨h0, h1, hB⟩ := h
  have l0 := World.block_lt_of_cell? W ⟨b, o + 1, none⟩ h0
  obtain ⟨c, _⟩ := bcell hb
  exact ⟨(c _ _ l0).trans h0, (c _ _ l0).trans h1, hB.trans (hb.mono hB.size)⟩

theorem unA0 {W u : World} (h : Below W.drew.heap.size W.drew u) : Below W.heap.size W u := ⟨h.os, h.tape, h.output, h.size, h.block⟩
theorem unA1 {W u : World} {o : Obj} (h : Below (W.alloc o).drew.heap.size (W.alloc o).drew u) : Below W.heap.size W u := ((Below.refl _ W).alloc (Nat.le_refl _) o).trans ((unA0 h).mono (by simp))
theorem newA1 {v x : World} {T : TypeId} (l : Below (v.alloc (.cells #[.int .i64 0, .int .i64 0, .int .i64 0] T)).drew.heap.size (v.alloc (.cells #[.int .i64 0, .int .i64 0, .int .i64 0] T)).drew x) : C3 x v.heap.size 0 0 0 := (C3.new v T 0 0 0).stays (unA0 l) (by simp)

set_option maxRecDepth 100000 in
set_option maxHeartbeats 2000000 in
theorem apart_any (b o : Nat) (x : StarV) (p q : Int) (fp : fits p) (fa : fits x.a) (w : World) (h1 : w.cell? ⟨b, o + 1, none⟩ = some (.int .i64 x.a)) (h2 : w.cell? ⟨b, o + 2, none⟩ = some (.int .i64 x.b)) :
    Calls Tryz.prog 44 #[.pointer (some ⟨b, o, none⟩), .int .i64 p, .int .i64 q] w fun e w' => e = .returned (.int .i64 (sepN (dirT x.a x.b) (dirT p q))) ∧ Below w.heap.size w w' := by
  obtain ⟨d, hd⟩ := sepN_eq (dirT x.a x.b) (dirT p q)
  obtain ⟨d1, hd1⟩ := dirT_eq x.a x.b
  obtain ⟨d2, hd2⟩ := dirT_eq p q
  have S := Lib.hid (fun w => specDir_any x.a x.b fa.1 fa.2 w)
  have T := Lib.hid (fun w => specDir_any p q fp.1 fp.2 w)
  have F := Lib.hid (fun w => specSep_any (dirT x.a x.b).1 (dirT x.a x.b).2.1 (dirT x.a x.b).2.2 (dirT p q).1 (dirT p q).2.1 (dirT p q).2.2 w)
  rw [hd] at F
  rw [hd1] at S
  rw [hd2] at T
  clear hd hd1 hd2 fa fp
  generalize sepN (dirT x.a x.b) (dirT p q) = n at *
  generalize (dirT x.a x.b).1 = v0 at *
  generalize (dirT x.a x.b).2.1 = v1 at *
  generalize (dirT x.a x.b).2.2 = v2 at *
  generalize (dirT p q).1 = u0 at *
  generalize (dirT p q).2.1 = u1 at *
  generalize (dirT p q).2.2 = u2 at *
  have K : Hid (w.cell? ⟨b, o + 1, none⟩ = some (.int .i64 x.a) ∧ w.cell? ⟨b, o + 2, none⟩ = some (.int .i64 x.b) ∧ Below w.heap.size w w) := Lib.hid ⟨h1, h2, Below.refl _ w⟩
  clear h1 h2
  generalize x.a = xa at *
  generalize x.b = xb at *
  go_enter Tryz.func44, Tryz.ntmps44
  go_upto_region 1 with fail
  go_cut [7, 8, 13] from 14 (fun s7 s8 s13 wx => ∃ g : Nat, s7 = .pointer (some ⟨g, 0, none⟩) ∧ s8 = .int .i64 d1 ∧ Hid (C3 wx g v0 v1 v2) ∧ Hid (Below w.heap.size w wx))
  case first =>
    go_region_held3 (fun w' => w'.cell? ⟨b, o + 1, none⟩ = some (.int .i64 xa) ∧ w'.cell? ⟨b, o + 2, none⟩ = some (.int .i64 xb) ∧ Below w.heap.size w w') (first | (refine apart_all K.out ?_; repeat (first | with_reducible exact b1 | with_reducible exact Below.refl _ _ | with_reducible refine Below.setCell ?_ (by first | (simp; done) | omega | (simp; omega)) _ | with_reducible refine Below.alloc ?_ (by first | (simp; done) | omega | (simp; omega)) _ | with_reducible refine bel_drew ?_)) | go_keep) ((first
      | (go_at_call 95; (with_reducible refine (S.out _).mono ?_); rintro e u1 ⟨rfl, hu1⟩; (first | have b1 := unA1 hu1 | have b1 := unA0 hu1); have b1s := b1.size; (first
          | (have ra := newA1 hu1; have RA := Lib.hid ra; have la := ra.lt; have na := Nat.ne_of_lt la; have na' := Nat.ne_of_gt la; obtain ⟨qa0, qa1, qa2, qa3, qa4, qa5⟩ := ra)
          | skip))))
    all_goals
      rename_i held
      clear held
      go_wp2_with fail
      go_meet
      case rel =>
        refine ⟨_, rfl, rfl, ?_⟩
        first
        | with_reducible exact ⟨Lib.hid (C3.new _ _ _ _ _), Lib.hid (b1.alloc b1s _)⟩
        | with_reducible exact ⟨Lib.hid (((RA.out.set0 _).set1 _).set2 _), Lib.hid (((b1.setCell (Nat.le_refl _) _).setCell (Nat.le_refl _) _).setCell (Nat.le_refl _) _)⟩
  case rest =>
    obtain ⟨g, rfl, rfl, G, B⟩ := hcut
    clear S K
    go_wp2_with fail
    refine (T.out _).mono ?_
    rintro e w2 ⟨rfl, hb2⟩
    have G2 := Lib.hid (G.out.stays hb2 G.out.lt)
    have B2 := Lib.hid (B.out.trans (hb2.mono B.out.size))
    have CN := Lib.hid (C3.new w2 90 u0 u1 u2)
    have GN := Lib.hid (G2.out.stays ((Below.refl _ w2).alloc (Nat.le_refl _) (.cells #[.int .i64 u0, .int .i64 u1, .int .i64 u2] 90)) G2.out.lt)
    have BN := Lib.hid (B2.out.alloc B2.out.size (.cells #[.int .i64 u0, .int .i64 u1, .int .i64 u2] 90))
    clear hb2 G B T
    obtain ⟨g0, g1, g2, _, _, _⟩ := GN.out
    obtain ⟨e0, e1, e2, _, _, _⟩ := CN.out
    obtain ⟨k0, k1, k2, _, _, _⟩ := G2.out
    clear GN CN G2
    go_wp2_with fail
    refine (F.out _).mono ?_
    rintro e w3 ⟨rfl, hb3⟩
    have B3 := Lib.hid (BN.out.trans (hb3.mono BN.out.size))
    clear hb3
    go_wp2_with fail
    go_returns
    exact ⟨rfl, B3.out⟩
end Go.Proofs.YtoellkbmhpekdaaGreatDoor
