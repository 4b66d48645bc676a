/-
  Valid lists of stars: the contracts of isNamedList and impl.ValidStars (package impl).
-/
import Derived.Test.YtjghopepgfgebaaGreatDoorStarK
import Derived.Deep.RegionHeld3
import Derived.Deep.RegionWith
import Derived.StillTailTactics
import Derived.Shelf.Abstract
namespace Go.Proofs.YtjghopepgfgebaaGreatDoor
open Go.RowKit
set_option linter.unusedVariables false

theorem keepI1 {w W W' : World} {b : Nat} {v0 v1 v2 v3 v4 : Value} (h : W.cell? ⟨b, 0, none⟩ = some v0 ∧ W.cell? ⟨b, 1, none⟩ = some v1 ∧ W.cell? ⟨b, 2, none⟩ = some v2 ∧ W.cell? ⟨b, 3, none⟩ = some v3 ∧ W.cell? ⟨b, 4, none⟩ = some v4 ∧ Below w.heap.size w W) (hb : Below W.heap.size W W') :
    W'.cell? ⟨b, 0, none⟩ = some v0 ∧ W'.cell? ⟨b, 1, none⟩ = some v1 ∧ W'.cell? ⟨b, 2, none⟩ = some v2 ∧ W'.cell? ⟨b, 3, none⟩ = some v3 ∧ W'.cell? ⟨b, 4, none⟩ = some v4 ∧ Below w.heap.size w W' := by
  obtain ⟨h0, h1, h2, h3, h4, hB⟩ := h
  have l0 := World.block_lt_of_cell? W ⟨b, 0, none⟩ h0
  obtain ⟨c, _⟩ := bcell hb
  exact ⟨(c _ _ l0).trans h0, (c _ _ l0).trans h1, (c _ _ l0).trans h2, (c _ _ l0).trans h3, (c _ _ l0).trans h4, hB.trans (hb.mono hB.size)⟩
theorem keepI2 {w W W' : World} {b g o : Nat} {v0 v1 v2 v3 v4 u0 u1 u2 u3 u4 : Value} (h : W.cell? ⟨b, 0, none⟩ = some v0 ∧ W.cell? ⟨b, 1, none⟩ = some v1 ∧ W.cell? ⟨b, 2, none⟩ = some v2 ∧ W.cell? ⟨b, 3, none⟩ = some v3 ∧ W.cell? ⟨b, 4, none⟩ = some v4 ∧ W.cell? ⟨g, o, none⟩ = some u0 ∧ W.cell? ⟨g, o + 1, none⟩ = some u1 ∧ W.cell? ⟨g, o + 2, none⟩ = some u2 ∧ W.cell? ⟨g, o + 3, none⟩ = some u3 ∧ W.cell? ⟨g, o + 4, none⟩ = some u4 ∧ Below w.heap.size w W) (hb : Below W.heap.size W W') :
    W'.cell? ⟨b, 0, none⟩ = some v0 ∧ W'.cell? ⟨b, 1, none⟩ = some v1 ∧ W'.cell? ⟨b, 2, none⟩ = some v2 ∧ W'.cell? ⟨b, 3, none⟩ = some v3 ∧ W'.cell? ⟨b, 4, none⟩ = some v4 ∧ W'.cell? ⟨g, o, none⟩ = some u0 ∧ W'.cell? ⟨g, o + 1, none⟩ = some u1 ∧ W'.cell? ⟨g, o + 2, none⟩ = some u2 ∧ W'.cell? ⟨g, o + 3, none⟩ = some u3 ∧ W'.cell? ⟨g, o + 4, none⟩ = some u4 ∧ Below w.heap.size w W' := by
  obtain ⟨h0, h1, h2, h3, h4, k0, k1, k2, k3, k4, hB⟩ := h
  have l0 := World.block_lt_of_cell? W ⟨b, 0, none⟩ h0
  have l1 := World.block_lt_of_cell? W ⟨g, o, none⟩ k0
  obtain ⟨c, _⟩ := bcell hb
  exact ⟨(c _ _ l0).trans h0, (c _ _ l0).trans h1, (c _ _ l0).trans h2, (c _ _ l0).trans h3, (c _ _ l0).trans h4, (c _ _ l1).trans k0, (c _ _ l1).trans k1, (c _ _ l1).trans k2, (c _ _ l1).trans k3, (c _ _ l1).trans k4, hB.trans (hb.mono hB.size)⟩
/-- What cmp.Compare answers of two texts. -/
def cmpS (x y : ByteArray) : Int := if Op.bytesLess x.toList y.toList = true then -1 else if (x.toList == y.toList) = true then 0 else 1
set_option maxHeartbeats 400000 in
theorem nanS_any (x : ByteArray) (w : World) : Calls Tryz.prog 139 #[.string x] w fun e w' => e = .returned (.bool false) ∧ w = w' := by
  have h : (x.toList != x.toList) = false := by simp
  have h2 : (x.toList == x.toList) = true := by simp
  go_enter Tryz.func139, Tryz.ntmps139
  go_wp2_with fail
  go_ret
  exact ⟨by simp, rfl⟩
set_option maxHeartbeats 400000 in
theorem cmpS_any (x y : ByteArray) (w : World) : Calls Tryz.prog 108 #[.string x, .string y] w fun e w' => e = .returned (.int .i64 (cmpS x y)) ∧ w = w' := by
  have NX := Lib.hid (fun w => nanS_any x w)
  have NY := Lib.hid (fun w => nanS_any y w)
  unfold cmpS
  cases h1 : Op.bytesLess x.toList y.toList with
  | true =>
    rw [if_pos rfl]
    go_enter Tryz.func108, Tryz.ntmps108
    go_wp2_with fail
    refine (NX.out _).mono ?_
    rintro e w' ⟨rfl, rfl⟩
    go_wp2_with fail
    refine (NY.out _).mono ?_
    rintro e w' ⟨rfl, rfl⟩
    go_wp2_with fail
    go_ret
    exact ⟨rfl, rfl⟩
  | false =>
    rw [if_neg (by simp)]
    cases h2 : (x.toList == y.toList) with
    | true =>
      rw [if_pos rfl]
      go_enter Tryz.func108, Tryz.ntmps108
      go_wp2_with fail
      refine (NX.out _).mono ?_
      rintro e w' ⟨rfl, rfl⟩
      go_wp2_with fail
      refine (NY.out _).mono ?_
      rintro e w' ⟨rfl, rfl⟩
      go_wp2_with fail
      go_ret
      exact ⟨rfl, rfl⟩
    | false =>
      rw [if_neg (by simp)]
      go_enter Tryz.func108, Tryz.ntmps108
      go_wp2_with fail
      refine (NX.out _).mono ?_
      rintro e w' ⟨rfl, rfl⟩
      go_wp2_with fail
      refine (NY.out _).mono ?_
      rintro e w' ⟨rfl, rfl⟩
      go_wp2_with fail
      go_ret
      exact ⟨rfl, rfl⟩
theorem cmpS_lt (x y : ByteArray) : (cmpS x y < 0) ↔ Op.bytesLess x.toList y.toList = true := by
  unfold cmpS
  cases Op.bytesLess x.toList y.toList with
  | true => simp
  | false => cases (x.toList == y.toList) <;> simp

set_option maxHeartbeats 400000 in
theorem nameOf_any (xs : ByteArray) (xa xb xc xd : Int) (w : World) :
    Calls Tryz.prog 65 #[.agg #[.string xs, .int .i64 xa, .int .i64 xb, .int .i64 xc, .int .i64 xd]] w fun e w' => e = .returned (.string xs) ∧ Below w.heap.size w w' := by
  go_enter Tryz.func65, Tryz.ntmps65
  go_wp2_with fail
  go_ret
  refine ⟨rfl, ?_⟩
  repeat (first | exact Below.refl _ _ | refine Below.setCell ?_ (by first | (simp; done) | omega | (simp; omega)) _ | refine Below.alloc ?_ (by first | (simp; done) | omega | (simp; omega)) _ | refine bel_drew ?_)

theorem keepI3 {w W W' : World} {b g h : Nat} {v0 v1 v2 v3 v4 u0 u1 u2 u3 u4 q : Value} (hh : W.cell? ⟨b, 0, none⟩ = some v0 ∧ W.cell? ⟨b, 1, none⟩ = some v1 ∧ W.cell? ⟨b, 2, none⟩ = some v2 ∧ W.cell? ⟨b, 3, none⟩ = some v3 ∧ W.cell? ⟨b, 4, none⟩ = some v4 ∧ W.cell? ⟨g, 0, none⟩ = some u0 ∧ W.cell? ⟨g, 1, none⟩ = some u1 ∧ W.cell? ⟨g, 2, none⟩ = some u2 ∧ W.cell? ⟨g, 3, none⟩ = some u3 ∧ W.cell? ⟨g, 4, none⟩ = some u4 ∧ W.cell? ⟨h, 0, none⟩ = some q ∧ Below w.heap.size w W) (hb : Below W.heap.size W W') :
    W'.cell? ⟨b, 0, none⟩ = some v0 ∧ W'.cell? ⟨b, 1, none⟩ = some v1 ∧ W'.cell? ⟨b, 2, none⟩ = some v2 ∧ W'.cell? ⟨b, 3, none⟩ = some v3 ∧ W'.cell? ⟨b, 4, none⟩ = some v4 ∧ W'.cell? ⟨g, 0, none⟩ = some u0 ∧ W'.cell? ⟨g, 1, none⟩ = some u1 ∧ W'.cell? ⟨g, 2, none⟩ = some u2 ∧ W'.cell? ⟨g, 3, none⟩ = some u3 ∧ W'.cell? ⟨g, 4, none⟩ = some u4 ∧ W'.cell? ⟨h, 0, none⟩ = some q ∧ Below w.heap.size w W' := by
  obtain ⟨h0, h1, h2, h3, h4, k0, k1, k2, k3, k4, hq, hB⟩ := hh
  have l0 := World.block_lt_of_cell? W ⟨b, 0, none⟩ h0
  have l1 := World.block_lt_of_cell? W ⟨g, 0, none⟩ k0
  have l2 := World.block_lt_of_cell? W ⟨h, 0, none⟩ hq
  obtain ⟨c, _⟩ := bcell hb
  exact ⟨(c _ _ l0).trans h0, (c _ _ l0).trans h1, (c _ _ l0).trans h2, (c _ _ l0).trans h3, (c _ _ l0).trans h4, (c _ _ l1).trans k0, (c _ _ l1).trans k1, (c _ _ l1).trans k2, (c _ _ l1).trans k3, (c _ _ l1).trans k4, (c _ _ l2).trans hq, hB.trans (hb.mono hB.size)⟩
set_option maxRecDepth 100000 in
set_option maxHeartbeats 4000000 in
theorem nameCmp_any (ps xs : ByteArray) (pa pb pc pd xa xb xc xd : Int) (p : Nat) (w : World) (hp : w.cell? ⟨p, 0, none⟩ = some (.func (.func 65) #[] #[])) :
    Calls Tryz.prog 107 #[.agg #[.string ps, .int .i64 pa, .int .i64 pb, .int .i64 pc, .int .i64 pd], .agg #[.string xs, .int .i64 xa, .int .i64 xb, .int .i64 xc, .int .i64 xd], .pointer (some ⟨p, 0, none⟩)] w fun e w' => e = .returned (.int .i64 (cmpS ps xs)) ∧ Below w.heap.size w w' := by
  have NP := Lib.hid (fun w => nameOf_any ps pa pb pc pd w)
  have NX := Lib.hid (fun w => nameOf_any xs xa xb xc xd w)
  have CC := Lib.hid (fun w => cmpS_any ps xs w)
  have hpl := World.block_lt_of_cell? w ⟨p, 0, none⟩ hp
  obtain ⟨n, hn⟩ : ∃ n, n = cmpS ps xs := ⟨_, rfl⟩
  rw [← hn] at CC ⊢
  clear hn
  obtain ⟨W0, hW0⟩ : ∃ W0, W0 = (w.alloc (Obj.cells #[.string ps, .int .i64 pa, .int .i64 pb, .int .i64 pc, .int .i64 pd] 49)).alloc (Obj.cells #[.string xs, .int .i64 xa, .int .i64 xb, .int .i64 xc, .int .i64 xd] 49) := ⟨_, rfl⟩
  have hB0 : Below w.heap.size w W0 := by rw [hW0]; exact ((Below.refl _ w).alloc (Nat.le_refl _) _).alloc (by simp) _
  have e0 : W0.cell? ⟨w.heap.size, 0, none⟩ = some (.string ps) := by rw [hW0, World.cell?_alloc_lt _ _ _ (by simp)]; simp
  have e1 : W0.cell? ⟨w.heap.size, 1, none⟩ = some (.int .i64 pa) := by rw [hW0, World.cell?_alloc_lt _ _ _ (by simp)]; simp
  have e2 : W0.cell? ⟨w.heap.size, 2, none⟩ = some (.int .i64 pb) := by rw [hW0, World.cell?_alloc_lt _ _ _ (by simp)]; simp
  have e3 : W0.cell? ⟨w.heap.size, 3, none⟩ = some (.int .i64 pc) := by rw [hW0, World.cell?_alloc_lt _ _ _ (by simp)]; simp
  have e4 : W0.cell? ⟨w.heap.size, 4, none⟩ = some (.int .i64 pd) := by rw [hW0, World.cell?_alloc_lt _ _ _ (by simp)]; simp
  have d0 : W0.cell? ⟨w.heap.size + 1, 0, none⟩ = some (.string xs) := by rw [hW0]; first | (simp; done) | (rw [show w.heap.size + 1 = (w.alloc (Obj.cells #[.string ps, .int .i64 pa, .int .i64 pb, .int .i64 pc, .int .i64 pd] 49)).heap.size by simp]; simp; done) | (rw [show w.heap.size + 1 = (w.alloc (Obj.cells #[.string ps, .int .i64 pa, .int .i64 pb, .int .i64 pc, .int .i64 pd] 49)).heap.size by simp, World.cell?_alloc_at]; rfl)
  have d1 : W0.cell? ⟨w.heap.size + 1, 1, none⟩ = some (.int .i64 xa) := by rw [hW0]; first | (simp; done) | (rw [show w.heap.size + 1 = (w.alloc (Obj.cells #[.string ps, .int .i64 pa, .int .i64 pb, .int .i64 pc, .int .i64 pd] 49)).heap.size by simp]; simp; done) | (rw [show w.heap.size + 1 = (w.alloc (Obj.cells #[.string ps, .int .i64 pa, .int .i64 pb, .int .i64 pc, .int .i64 pd] 49)).heap.size by simp, World.cell?_alloc_at]; rfl)
  have d2 : W0.cell? ⟨w.heap.size + 1, 2, none⟩ = some (.int .i64 xb) := by rw [hW0]; first | (simp; done) | (rw [show w.heap.size + 1 = (w.alloc (Obj.cells #[.string ps, .int .i64 pa, .int .i64 pb, .int .i64 pc, .int .i64 pd] 49)).heap.size by simp]; simp; done) | (rw [show w.heap.size + 1 = (w.alloc (Obj.cells #[.string ps, .int .i64 pa, .int .i64 pb, .int .i64 pc, .int .i64 pd] 49)).heap.size by simp, World.cell?_alloc_at]; rfl)
  have d3 : W0.cell? ⟨w.heap.size + 1, 3, none⟩ = some (.int .i64 xc) := by rw [hW0]; first | (simp; done) | (rw [show w.heap.size + 1 = (w.alloc (Obj.cells #[.string ps, .int .i64 pa, .int .i64 pb, .int .i64 pc, .int .i64 pd] 49)).heap.size by simp]; simp; done) | (rw [show w.heap.size + 1 = (w.alloc (Obj.cells #[.string ps, .int .i64 pa, .int .i64 pb, .int .i64 pc, .int .i64 pd] 49)).heap.size by simp, World.cell?_alloc_at]; rfl)
  have d4 : W0.cell? ⟨w.heap.size + 1, 4, none⟩ = some (.int .i64 xd) := by rw [hW0]; first | (simp; done) | (rw [show w.heap.size + 1 = (w.alloc (Obj.cells #[.string ps, .int .i64 pa, .int .i64 pb, .int .i64 pc, .int .i64 pd] 49)).heap.size by simp]; simp; done) | (rw [show w.heap.size + 1 = (w.alloc (Obj.cells #[.string ps, .int .i64 pa, .int .i64 pb, .int .i64 pc, .int .i64 pd] 49)).heap.size by simp, World.cell?_alloc_at]; rfl)
  have hq := (hB0.cell (p := ⟨p, 0, none⟩) hpl).trans hp
  have KX : Hid (W0.cell? ⟨w.heap.size, 0, none⟩ = some (.string ps) ∧ W0.cell? ⟨w.heap.size, 1, none⟩ = some (.int .i64 pa) ∧ W0.cell? ⟨w.heap.size, 2, none⟩ = some (.int .i64 pb) ∧ W0.cell? ⟨w.heap.size, 3, none⟩ = some (.int .i64 pc) ∧ W0.cell? ⟨w.heap.size, 4, none⟩ = some (.int .i64 pd) ∧ W0.cell? ⟨w.heap.size + 1, 0, none⟩ = some (.string xs) ∧ W0.cell? ⟨w.heap.size + 1, 1, none⟩ = some (.int .i64 xa) ∧ W0.cell? ⟨w.heap.size + 1, 2, none⟩ = some (.int .i64 xb) ∧ W0.cell? ⟨w.heap.size + 1, 3, none⟩ = some (.int .i64 xc) ∧ W0.cell? ⟨w.heap.size + 1, 4, none⟩ = some (.int .i64 xd) ∧ W0.cell? ⟨p, 0, none⟩ = some (.func (.func 65) #[] #[]) ∧ Below w.heap.size w W0) := Lib.hid ⟨e0, e1, e2, e3, e4, d0, d1, d2, d3, d4, hq, hB0⟩
  have HW := Lib.hid hW0
  clear hW0 hB0 e0 e1 e2 e3 e4 d0 d1 d2 d3 d4 hq
  go_enter Tryz.func107, Tryz.ntmps107
  go_wp2_with fail
  rw [← HW.out]
  clear HW hp
  go_region_held3 (fun W => W.cell? ⟨w.heap.size, 0, none⟩ = some (.string ps) ∧ W.cell? ⟨w.heap.size, 1, none⟩ = some (.int .i64 pa) ∧ W.cell? ⟨w.heap.size, 2, none⟩ = some (.int .i64 pb) ∧ W.cell? ⟨w.heap.size, 3, none⟩ = some (.int .i64 pc) ∧ W.cell? ⟨w.heap.size, 4, none⟩ = some (.int .i64 pd) ∧ W.cell? ⟨w.heap.size + 1, 0, none⟩ = some (.string xs) ∧ W.cell? ⟨w.heap.size + 1, 1, none⟩ = some (.int .i64 xa) ∧ W.cell? ⟨w.heap.size + 1, 2, none⟩ = some (.int .i64 xb) ∧ W.cell? ⟨w.heap.size + 1, 3, none⟩ = some (.int .i64 xc) ∧ W.cell? ⟨w.heap.size + 1, 4, none⟩ = some (.int .i64 xd) ∧ W.cell? ⟨p, 0, none⟩ = some (.func (.func 65) #[] #[]) ∧ Below w.heap.size w W) (first | (exact keepI3 KX.out (drewS W0)) | (exact keepI3 KX.out y2) | (exact keepI3 KX.out y1) | go_keep) ((first
    | (go_at_call 65; (first
      | ((with_reducible refine (NP.out _).mono ?_); rintro e x1 ⟨rfl, hx1⟩; (first | have y1 := undrewS hx1 | have y2 := y1.trans (hx1.mono y1.size)))
      | ((with_reducible refine (NX.out _).mono ?_); rintro e x2 ⟨rfl, hx2⟩; (first | have y1 := undrewS hx2 | have y2 := y1.trans (hx2.mono y1.size)))))
    | (refine (CC.out _).mono ?_; rintro e w' ⟨rfl, rfl⟩)))
  all_goals
    rename_i held
    have HH := Lib.hid held.2.2.2.2.2.2.2.2.2.2.2
    clear held KX
    go_wp2_with fail
    go_ret
    exact ⟨rfl, HH.out⟩

set_option maxRecDepth 100000 in
set_option maxHeartbeats 4000000 in
theorem incr_any (g cap p : Nat) (zs : List StarV) (w : World) (hb : zs.length ≤ 1048577) (h1 : Row w g zs) (hok : ∀ j, (h : j < zs.length) → zs[j].ok) (hp : w.cell? ⟨p, 0, none⟩ = some (.func (.func 65) #[] #[])) :
    Calls Tryz.prog 106 #[.slice (some ⟨g, 0, none⟩) zs.length cap, .int .i64 24, .func (.func 30) #[] #[], .func (.func 107) #[] #[.pointer (some ⟨p, 0, none⟩)]] w fun e w' => e = .returned (.bool (okL zs)) ∧ Below w.heap.size w w' := by
  have H1 := Lib.hid h1
  have HK := Lib.hid hok
  have KN := Lib.hid (okZ_next zs)
  have KS := Lib.hid (okZ_stop zs)
  have KE : Hid (okL zs = (okZ zs zs.length && decide (zs.length ≤ 24))) := Lib.hid rfl
  generalize okL zs = r at *
  have hpl := World.block_lt_of_cell? w ⟨p, 0, none⟩ hp
  have HP := Lib.hid hp
  clear h1 hok hp
  by_cases hmo : 24 < zs.length
  · have hr : r = false := by rw [KE.out, show decide (zs.length ≤ 24) = false by simpa using hmo, Bool.and_false]
    subst hr
    have hmo' : (24 : Int) < (zs.length : Int) := by omega
    go_enter Tryz.func106, Tryz.ntmps106
    go_wp2_with fail
    go_ret
    exact ⟨rfl, Below.refl _ _⟩
  · have hmo' : ¬ (24 : Int) < (zs.length : Int) := by omega
    have hE : r = okZ zs zs.length := by rw [KE.out, show decide (zs.length ≤ 24) = true by simpa using Nat.not_lt.1 hmo, Bool.and_true]
    have HE := Lib.hid hE
    clear hE KE
    go_enter Tryz.func106, Tryz.ntmps106
    go_wp2_with fail
    go_loopg [17] (zs.length + 1) (fun kx s17 wr => ∃ j : Nat, s17 = .int .i64 (j : Int) ∧ j ≤ zs.length ∧ kx = zs.length + 1 - j ∧ Hid (okZ zs j = true) ∧ Hid (Below w.heap.size w wr))
    case atStart => exact ⟨0, rfl, Nat.zero_le _, rfl, Lib.hid rfl, Lib.hid (Below.refl _ _)⟩
    case round =>
      obtain ⟨j, rfl, hj, rfl, HO, HB⟩ := hrel
      by_cases hlt : j < zs.length
      · have hR := H1.out.below HB.out
        obtain ⟨c0, c1, c2, c3, c4⟩ := hR.at j hlt
        have V := Lib.hid (fun w => validStar_any zs[j].s zs[j].a zs[j].b zs[j].c zs[j].d (HK.out j hlt).1 w)
        have HS := Lib.hid (KS.out j hlt)
        have HN := Lib.hid (KN.out j)
        have j0 : (0 : Int) ≤ (j : Int) := by omega
        have j1 : (j : Int) < (zs.length : Int) := by omega
        have GD := getD_at zs j hlt
        have hgd : zs[j].good = starB zs[j].s zs[j].a zs[j].b zs[j].c zs[j].d := rfl
        rw [← hgd] at V
        clear hgd
        obtain ⟨W0, hW0⟩ : ∃ W0, W0 = wr.alloc (Obj.cells #[.string zs[j].s, .int .i64 zs[j].a, .int .i64 zs[j].b, .int .i64 zs[j].c, .int .i64 zs[j].d] 49) := ⟨_, rfl⟩
        have hB0 : Below wr.heap.size wr W0 := by rw [hW0]; exact (Below.refl _ wr).alloc (Nat.le_refl _) _
        have HB0 : Below w.heap.size w W0 := HB.out.trans (hB0.mono HB.out.size)
        have e0 : W0.cell? ⟨wr.heap.size, 0, none⟩ = some (.string zs[j].s) := by rw [hW0]; simp
        have e1 : W0.cell? ⟨wr.heap.size, 1, none⟩ = some (.int .i64 zs[j].a) := by rw [hW0]; simp
        have e2 : W0.cell? ⟨wr.heap.size, 2, none⟩ = some (.int .i64 zs[j].b) := by rw [hW0]; simp
        have e3 : W0.cell? ⟨wr.heap.size, 3, none⟩ = some (.int .i64 zs[j].c) := by rw [hW0]; simp
        have e4 : W0.cell? ⟨wr.heap.size, 4, none⟩ = some (.int .i64 zs[j].d) := by rw [hW0]; simp
        have HW := Lib.hid hW0
        clear hW0
        have HQ : Hid (∀ W, Below W0.heap.size W0 W → W.cell? ⟨p, 0, none⟩ = some (.func (.func 65) #[] #[])) := Lib.hid (fun W hb => ((HB0.trans (hb.mono HB0.size)).cell (p := ⟨p, 0, none⟩) hpl).trans HP.out)
        cases hg : zs[j].good with
        | false =>
          have hst : stepB zs j = false := by unfold stepB; rw [GD, hg]; rfl
          have hr : r = false := HS.out hst
          rw [hg] at V
          subst hr
          clear hg hst GD hR HS HN KS KN hB0
          generalize zs[j] = x at *
          obtain ⟨xs, xa, xb, xc, xd⟩ := x
          simp only at c0 c1 c2 c3 c4 V e0 e1 e2 e3 e4 HW
          go_wp2_with fail
          rw [← HW.out]
          clear HW c0 c1 c2 c3 c4
          have KX : Hid (W0.cell? ⟨wr.heap.size, 0, none⟩ = some (.string xs) ∧ W0.cell? ⟨wr.heap.size, 1, none⟩ = some (.int .i64 xa) ∧ W0.cell? ⟨wr.heap.size, 2, none⟩ = some (.int .i64 xb) ∧ W0.cell? ⟨wr.heap.size, 3, none⟩ = some (.int .i64 xc) ∧ W0.cell? ⟨wr.heap.size, 4, none⟩ = some (.int .i64 xd) ∧ Below w.heap.size w W0) := Lib.hid ⟨e0, e1, e2, e3, e4, HB0⟩
          clear e0 e1 e2 e3 e4 HB0
          refine wp_region_held_drew (S := fun W => W.cell? ⟨wr.heap.size, 0, none⟩ = some (.string xs) ∧ W.cell? ⟨wr.heap.size, 1, none⟩ = some (.int .i64 xa) ∧ W.cell? ⟨wr.heap.size, 2, none⟩ = some (.int .i64 xb) ∧ W.cell? ⟨wr.heap.size, 3, none⟩ = some (.int .i64 xc) ∧ W.cell? ⟨wr.heap.size, 4, none⟩ = some (.int .i64 xd) ∧ Below w.heap.size w W) (by kernel_rfl) ?_ (fun hHeld => ?_)
          · exact keepI1 KX.out (drewS W0)
          refine wpAnyH_take (i := 0) rfl (by kernel_rfl) (by kernel_rfl) (by kernel_rfl) (fun _ _ _ h => h) (Or.inl ⟨by kernel_rfl, fun w hSw => by (try dsimp only at hSw); go_simp; (try with_reducible rfl)⟩) hHeld ?_
          try simp only [List.getElem_toArray, List.getElem_cons_zero, List.getElem_cons_succ, Act.put, List.setIfInBounds_toArray, List.set_cons_zero, List.set_cons_succ]
          refine wpAnyH_take (i := 1) rfl (by kernel_rfl) (by kernel_rfl) (by kernel_rfl) (fun _ _ _ h => h) (Or.inl ⟨by kernel_rfl, fun w hSw => by (try dsimp only at hSw); go_simp; (try with_reducible rfl)⟩) hHeld ?_
          try simp only [List.getElem_toArray, List.getElem_cons_zero, List.getElem_cons_succ, Act.put, List.setIfInBounds_toArray, List.set_cons_zero, List.set_cons_succ]
          refine wpAnyH_ready (rs := [2]) (by kernel_rfl) (by simp) ?_
          refine AllReadyH.cons rfl (fun KK hK => ?_) AllReadyH.nil
          go_simp
          first | go_at_call 30 | skip
          refine (V.out _).mono ?_
          rintro e x1 ⟨rfl, hx1⟩
          have y1 := undrewS hx1
          refine hK.out _ _ ?_ (fun hHeld2 => ?_)
          · exact keepI1 KX.out y1
          clear hK KK hHeld hx1 y1 KX
          try simp only [List.getElem_toArray, List.getElem_cons_zero, List.getElem_cons_succ, Act.put, List.setIfInBounds_toArray, List.set_cons_zero, List.set_cons_succ]
          refine wpAnyH_take (i := 3) rfl (by kernel_rfl) (by kernel_rfl) (by kernel_rfl) (fun _ _ _ h => h) (Or.inl ⟨by kernel_rfl, fun w hSw => by (try dsimp only at hSw); go_simp; (try with_reducible rfl)⟩) hHeld2 ?_
          try simp only [List.getElem_toArray, List.getElem_cons_zero, List.getElem_cons_succ, Act.put, List.setIfInBounds_toArray, List.set_cons_zero, List.set_cons_succ]
          refine wpAnyH_take (i := 4) rfl (by kernel_rfl) (by kernel_rfl) (by kernel_rfl) (fun _ _ _ h => h) (Or.inl ⟨by kernel_rfl, fun w hSw => by (try dsimp only at hSw); go_simp; (try with_reducible rfl)⟩) hHeld2 ?_
          try simp only [List.getElem_toArray, List.getElem_cons_zero, List.getElem_cons_succ, Act.put, List.setIfInBounds_toArray, List.set_cons_zero, List.set_cons_succ]
          refine wpAnyH_take (i := 5) rfl (by kernel_rfl) (by kernel_rfl) (by kernel_rfl) (fun _ _ _ h => h) (Or.inr ⟨by kernel_rfl, rfl⟩) hHeld2 ?_
          try simp only [List.getElem_toArray, List.getElem_cons_zero, List.getElem_cons_succ, Act.put, List.setIfInBounds_toArray, List.set_cons_zero, List.set_cons_succ]
          refine wpAnyH_take (i := 6) rfl (by kernel_rfl) (by kernel_rfl) (by kernel_rfl) (fun _ _ _ h => h) (Or.inr ⟨by kernel_rfl, rfl⟩) hHeld2 ?_
          try simp only [List.getElem_toArray, List.getElem_cons_zero, List.getElem_cons_succ, Act.put, List.setIfInBounds_toArray, List.set_cons_zero, List.set_cons_succ]
          refine wpAnyH_take (i := 7) rfl (by kernel_rfl) (by kernel_rfl) (by kernel_rfl) (fun _ _ _ h => h) (Or.inr ⟨by kernel_rfl, rfl⟩) hHeld2 ?_
          try simp only [List.getElem_toArray, List.getElem_cons_zero, List.getElem_cons_succ, Act.put, List.setIfInBounds_toArray, List.set_cons_zero, List.set_cons_succ]
          refine wpAnyH_take (i := 8) rfl (by kernel_rfl) (by kernel_rfl) (by kernel_rfl) (fun _ _ _ h => h) (Or.inr ⟨by kernel_rfl, rfl⟩) hHeld2 ?_
          try simp only [List.getElem_toArray, List.getElem_cons_zero, List.getElem_cons_succ, Act.put, List.setIfInBounds_toArray, List.set_cons_zero, List.set_cons_succ]
          refine wpAnyH_take (i := 9) rfl (by kernel_rfl) (by kernel_rfl) (by kernel_rfl) (fun _ _ _ h => h) (Or.inr ⟨by kernel_rfl, rfl⟩) hHeld2 ?_
          try simp only [List.getElem_toArray, List.getElem_cons_zero, List.getElem_cons_succ, Act.put, List.setIfInBounds_toArray, List.set_cons_zero, List.set_cons_succ]
          refine wpAnyH_take (i := 10) rfl (by kernel_rfl) (by kernel_rfl) (by kernel_rfl) (fun _ _ _ h => h) (Or.inr ⟨by kernel_rfl, rfl⟩) hHeld2 ?_
          try simp only [List.getElem_toArray, List.getElem_cons_zero, List.getElem_cons_succ, Act.put, List.setIfInBounds_toArray, List.set_cons_zero, List.set_cons_succ]
          refine wpAnyH_take (i := 11) rfl (by kernel_rfl) (by kernel_rfl) (by kernel_rfl) (fun _ _ _ h => h) (Or.inr ⟨by kernel_rfl, rfl⟩) hHeld2 ?_
          try simp only [List.getElem_toArray, List.getElem_cons_zero, List.getElem_cons_succ, Act.put, List.setIfInBounds_toArray, List.set_cons_zero, List.set_cons_succ]
          refine wpAnyH_take (i := 12) rfl (by kernel_rfl) (by kernel_rfl) (by kernel_rfl) (fun _ _ _ h => h) (Or.inr ⟨by kernel_rfl, rfl⟩) hHeld2 ?_
          try simp only [List.getElem_toArray, List.getElem_cons_zero, List.getElem_cons_succ, Act.put, List.setIfInBounds_toArray, List.set_cons_zero, List.set_cons_succ]
          refine wpAnyH_take (i := 13) rfl (by kernel_rfl) (by kernel_rfl) (by kernel_rfl) (fun _ _ _ h => h) (Or.inr ⟨by kernel_rfl, rfl⟩) hHeld2 ?_
          try simp only [List.getElem_toArray, List.getElem_cons_zero, List.getElem_cons_succ, Act.put, List.setIfInBounds_toArray, List.set_cons_zero, List.set_cons_succ]
          refine wpAnyH_take (i := 14) rfl (by kernel_rfl) (by kernel_rfl) (by kernel_rfl) (fun _ _ _ h => h) (Or.inr ⟨by kernel_rfl, rfl⟩) hHeld2 ?_
          try simp only [List.getElem_toArray, List.getElem_cons_zero, List.getElem_cons_succ, Act.put, List.setIfInBounds_toArray, List.set_cons_zero, List.set_cons_succ]
          refine wpAnyH_take (i := 15) rfl (by kernel_rfl) (by kernel_rfl) (by kernel_rfl) (fun _ _ _ h => h) (Or.inr ⟨by kernel_rfl, rfl⟩) hHeld2 ?_
          try simp only [List.getElem_toArray, List.getElem_cons_zero, List.getElem_cons_succ, Act.put, List.setIfInBounds_toArray, List.set_cons_zero, List.set_cons_succ]
          refine wpAnyH_take (i := 16) rfl (by kernel_rfl) (by kernel_rfl) (by kernel_rfl) (fun _ _ _ h => h) (Or.inr ⟨by kernel_rfl, rfl⟩) hHeld2 ?_
          try simp only [List.getElem_toArray, List.getElem_cons_zero, List.getElem_cons_succ, Act.put, List.setIfInBounds_toArray, List.set_cons_zero, List.set_cons_succ]
          refine wpAnyH_take (i := 17) rfl (by kernel_rfl) (by kernel_rfl) (by kernel_rfl) (fun _ _ _ h => h) (Or.inr ⟨by kernel_rfl, rfl⟩) hHeld2 ?_
          try simp only [List.getElem_toArray, List.getElem_cons_zero, List.getElem_cons_succ, Act.put, List.setIfInBounds_toArray, List.set_cons_zero, List.set_cons_succ]
          refine wpAnyH_take (i := 18) rfl (by kernel_rfl) (by kernel_rfl) (by kernel_rfl) (fun _ _ _ h => h) (Or.inl ⟨by kernel_rfl, fun w hSw => by (try dsimp only at hSw); go_simp; (try with_reducible rfl)⟩) hHeld2 ?_
          try simp only [List.getElem_toArray, List.getElem_cons_zero, List.getElem_cons_succ, Act.put, List.setIfInBounds_toArray, List.set_cons_zero, List.set_cons_succ]
          refine wpAnyH_done (by kernel_rfl) ?_ _
          have HH : Hid (Below w.heap.size w x1) := Lib.hid hHeld2.2.2.2.2.2
          clear hHeld2
          go_wp2_with fail
          go_ret
          exact ⟨rfl, HH.out⟩
        | true =>
          rw [hg] at V
          by_cases hz : j = 0
          · subst hz
            have hst : okZ zs (0 + 1) = true := by rw [HN.out, stepB_zero, GD, hg]; rfl
            have HT := Lib.hid hst
            clear hg hst GD hR HS HN KS KN hB0
            generalize zs[0] = x at *
            obtain ⟨xs, xa, xb, xc, xd⟩ := x
            simp only at c0 c1 c2 c3 c4 V e0 e1 e2 e3 e4 HW
            go_wp2_with fail
            rw [← HW.out]
            clear HW c0 c1 c2 c3 c4
            have KX : Hid (W0.cell? ⟨wr.heap.size, 0, none⟩ = some (.string xs) ∧ W0.cell? ⟨wr.heap.size, 1, none⟩ = some (.int .i64 xa) ∧ W0.cell? ⟨wr.heap.size, 2, none⟩ = some (.int .i64 xb) ∧ W0.cell? ⟨wr.heap.size, 3, none⟩ = some (.int .i64 xc) ∧ W0.cell? ⟨wr.heap.size, 4, none⟩ = some (.int .i64 xd) ∧ Below w.heap.size w W0) := Lib.hid ⟨e0, e1, e2, e3, e4, HB0⟩
            clear e0 e1 e2 e3 e4 HB0
            refine wp_region_held_drew (S := fun W => W.cell? ⟨wr.heap.size, 0, none⟩ = some (.string xs) ∧ W.cell? ⟨wr.heap.size, 1, none⟩ = some (.int .i64 xa) ∧ W.cell? ⟨wr.heap.size, 2, none⟩ = some (.int .i64 xb) ∧ W.cell? ⟨wr.heap.size, 3, none⟩ = some (.int .i64 xc) ∧ W.cell? ⟨wr.heap.size, 4, none⟩ = some (.int .i64 xd) ∧ Below w.heap.size w W) (by kernel_rfl) ?_ (fun hHeld => ?_)
            · exact keepI1 KX.out (drewS W0)
            refine wpAnyH_take (i := 0) rfl (by kernel_rfl) (by kernel_rfl) (by kernel_rfl) (fun _ _ _ h => h) (Or.inl ⟨by kernel_rfl, fun w hSw => by (try dsimp only at hSw); go_simp; (try with_reducible rfl)⟩) hHeld ?_
            try simp only [List.getElem_toArray, List.getElem_cons_zero, List.getElem_cons_succ, Act.put, List.setIfInBounds_toArray, List.set_cons_zero, List.set_cons_succ]
            refine wpAnyH_take (i := 1) rfl (by kernel_rfl) (by kernel_rfl) (by kernel_rfl) (fun _ _ _ h => h) (Or.inl ⟨by kernel_rfl, fun w hSw => by (try dsimp only at hSw); go_simp; (try with_reducible rfl)⟩) hHeld ?_
            try simp only [List.getElem_toArray, List.getElem_cons_zero, List.getElem_cons_succ, Act.put, List.setIfInBounds_toArray, List.set_cons_zero, List.set_cons_succ]
            refine wpAnyH_ready (rs := [2]) (by kernel_rfl) (by simp) ?_
            refine AllReadyH.cons rfl (fun KK hK => ?_) AllReadyH.nil
            go_simp
            first | go_at_call 30 | skip
            refine (V.out _).mono ?_
            rintro e x1 ⟨rfl, hx1⟩
            have y1 := undrewS hx1
            refine hK.out _ _ ?_ (fun hHeld2 => ?_)
            · exact keepI1 KX.out y1
            clear hK KK hHeld hx1 y1 KX
            try simp only [List.getElem_toArray, List.getElem_cons_zero, List.getElem_cons_succ, Act.put, List.setIfInBounds_toArray, List.set_cons_zero, List.set_cons_succ]
            refine wpAnyH_take (i := 3) rfl (by kernel_rfl) (by kernel_rfl) (by kernel_rfl) (fun _ _ _ h => h) (Or.inl ⟨by kernel_rfl, fun w hSw => by (try dsimp only at hSw); go_simp; (try with_reducible rfl)⟩) hHeld2 ?_
            try simp only [List.getElem_toArray, List.getElem_cons_zero, List.getElem_cons_succ, Act.put, List.setIfInBounds_toArray, List.set_cons_zero, List.set_cons_succ]
            refine wpAnyH_take (i := 4) rfl (by kernel_rfl) (by kernel_rfl) (by kernel_rfl) (fun _ _ _ h => h) (Or.inl ⟨by kernel_rfl, fun w hSw => by (try dsimp only at hSw); go_simp; (try with_reducible rfl)⟩) hHeld2 ?_
            try simp only [List.getElem_toArray, List.getElem_cons_zero, List.getElem_cons_succ, Act.put, List.setIfInBounds_toArray, List.set_cons_zero, List.set_cons_succ]
            refine wpAnyH_take (i := 5) rfl (by kernel_rfl) (by kernel_rfl) (by kernel_rfl) (fun _ _ _ h => h) (Or.inl ⟨by kernel_rfl, fun w hSw => by (try dsimp only at hSw); go_simp; (try with_reducible rfl)⟩) hHeld2 ?_
            try simp only [List.getElem_toArray, List.getElem_cons_zero, List.getElem_cons_succ, Act.put, List.setIfInBounds_toArray, List.set_cons_zero, List.set_cons_succ]
            refine wpAnyH_take (i := 6) rfl (by kernel_rfl) (by kernel_rfl) (by kernel_rfl) (fun _ _ _ h => h) (Or.inl ⟨by kernel_rfl, fun w hSw => by (try dsimp only at hSw); go_simp; (try with_reducible rfl)⟩) hHeld2 ?_
            try simp only [List.getElem_toArray, List.getElem_cons_zero, List.getElem_cons_succ, Act.put, List.setIfInBounds_toArray, List.set_cons_zero, List.set_cons_succ]
            refine wpAnyH_take (i := 7) rfl (by kernel_rfl) (by kernel_rfl) (by kernel_rfl) (fun _ _ _ h => h) (Or.inl ⟨by kernel_rfl, fun w hSw => by (try dsimp only at hSw); go_simp; (try with_reducible rfl)⟩) hHeld2 ?_
            try simp only [List.getElem_toArray, List.getElem_cons_zero, List.getElem_cons_succ, Act.put, List.setIfInBounds_toArray, List.set_cons_zero, List.set_cons_succ]
            refine wpAnyH_take (i := 8) rfl (by kernel_rfl) (by kernel_rfl) (by kernel_rfl) (fun _ _ _ h => h) (Or.inr ⟨by kernel_rfl, rfl⟩) hHeld2 ?_
            try simp only [List.getElem_toArray, List.getElem_cons_zero, List.getElem_cons_succ, Act.put, List.setIfInBounds_toArray, List.set_cons_zero, List.set_cons_succ]
            refine wpAnyH_take (i := 9) rfl (by kernel_rfl) (by kernel_rfl) (by kernel_rfl) (fun _ _ _ h => h) (Or.inr ⟨by kernel_rfl, rfl⟩) hHeld2 ?_
            try simp only [List.getElem_toArray, List.getElem_cons_zero, List.getElem_cons_succ, Act.put, List.setIfInBounds_toArray, List.set_cons_zero, List.set_cons_succ]
            refine wpAnyH_take (i := 10) rfl (by kernel_rfl) (by kernel_rfl) (by kernel_rfl) (fun _ _ _ h => h) (Or.inr ⟨by kernel_rfl, rfl⟩) hHeld2 ?_
            try simp only [List.getElem_toArray, List.getElem_cons_zero, List.getElem_cons_succ, Act.put, List.setIfInBounds_toArray, List.set_cons_zero, List.set_cons_succ]
            refine wpAnyH_take (i := 11) rfl (by kernel_rfl) (by kernel_rfl) (by kernel_rfl) (fun _ _ _ h => h) (Or.inr ⟨by kernel_rfl, rfl⟩) hHeld2 ?_
            try simp only [List.getElem_toArray, List.getElem_cons_zero, List.getElem_cons_succ, Act.put, List.setIfInBounds_toArray, List.set_cons_zero, List.set_cons_succ]
            refine wpAnyH_take (i := 12) rfl (by kernel_rfl) (by kernel_rfl) (by kernel_rfl) (fun _ _ _ h => h) (Or.inr ⟨by kernel_rfl, rfl⟩) hHeld2 ?_
            try simp only [List.getElem_toArray, List.getElem_cons_zero, List.getElem_cons_succ, Act.put, List.setIfInBounds_toArray, List.set_cons_zero, List.set_cons_succ]
            refine wpAnyH_take (i := 13) rfl (by kernel_rfl) (by kernel_rfl) (by kernel_rfl) (fun _ _ _ h => h) (Or.inr ⟨by kernel_rfl, rfl⟩) hHeld2 ?_
            try simp only [List.getElem_toArray, List.getElem_cons_zero, List.getElem_cons_succ, Act.put, List.setIfInBounds_toArray, List.set_cons_zero, List.set_cons_succ]
            refine wpAnyH_take (i := 14) rfl (by kernel_rfl) (by kernel_rfl) (by kernel_rfl) (fun _ _ _ h => h) (Or.inr ⟨by kernel_rfl, rfl⟩) hHeld2 ?_
            try simp only [List.getElem_toArray, List.getElem_cons_zero, List.getElem_cons_succ, Act.put, List.setIfInBounds_toArray, List.set_cons_zero, List.set_cons_succ]
            refine wpAnyH_take (i := 15) rfl (by kernel_rfl) (by kernel_rfl) (by kernel_rfl) (fun _ _ _ h => h) (Or.inr ⟨by kernel_rfl, rfl⟩) hHeld2 ?_
            try simp only [List.getElem_toArray, List.getElem_cons_zero, List.getElem_cons_succ, Act.put, List.setIfInBounds_toArray, List.set_cons_zero, List.set_cons_succ]
            refine wpAnyH_take (i := 16) rfl (by kernel_rfl) (by kernel_rfl) (by kernel_rfl) (fun _ _ _ h => h) (Or.inr ⟨by kernel_rfl, rfl⟩) hHeld2 ?_
            try simp only [List.getElem_toArray, List.getElem_cons_zero, List.getElem_cons_succ, Act.put, List.setIfInBounds_toArray, List.set_cons_zero, List.set_cons_succ]
            refine wpAnyH_take (i := 17) rfl (by kernel_rfl) (by kernel_rfl) (by kernel_rfl) (fun _ _ _ h => h) (Or.inl ⟨by kernel_rfl, fun w hSw => by (try dsimp only at hSw); go_simp; (try with_reducible rfl)⟩) hHeld2 ?_
            try simp only [List.getElem_toArray, List.getElem_cons_zero, List.getElem_cons_succ, Act.put, List.setIfInBounds_toArray, List.set_cons_zero, List.set_cons_succ]
            refine wpAnyH_take (i := 18) rfl (by kernel_rfl) (by kernel_rfl) (by kernel_rfl) (fun _ _ _ h => h) (Or.inl ⟨by kernel_rfl, fun w hSw => by (try dsimp only at hSw); go_simp; (try with_reducible rfl)⟩) hHeld2 ?_
            try simp only [List.getElem_toArray, List.getElem_cons_zero, List.getElem_cons_succ, Act.put, List.setIfInBounds_toArray, List.set_cons_zero, List.set_cons_succ]
            refine wpAnyH_done (by kernel_rfl) ?_ _
            have HH : Hid (Below w.heap.size w x1) := Lib.hid hHeld2.2.2.2.2.2
            clear hHeld2
            go_wp2_with fail
            go_roundg (zs.length + 1 - (0 + 1))
            case measure => omega
            case rel => exact ⟨0 + 1, by go_num, by omega, by omega, HT, HH⟩
          · obtain ⟨k, hk⟩ : ∃ k, j = k + 1 := ⟨j - 1, by omega⟩
            have hkl : k < zs.length := by omega
            obtain ⟨p0, p1, p2, p3, p4⟩ := (hR.below hB0).at k hkl
            have hst : stepB zs j = ltS (zs[k]'hkl).s zs[j].s := by rw [stepB_pos zs j k hk, GD, getD_at zs k hkl, hg, Bool.true_and]
            have ek : (j : Int) - 1 = (k : Int) := by omega
            have k0 : (0 : Int) ≤ (k : Int) := by omega
            have k1 : (k : Int) < (zs.length : Int) := by omega
            have kg : 0 < j := by omega
            have kd : decide (0 < j) = true := by simpa using kg
            have wk : IntKind.i64.wrap (k : Int) = (k : Int) := IntWalk.i64_in _ (by omega)
            rw [hst] at HS HN
            have HL : Hid (ltS (zs[k]'hkl).s zs[j].s = Op.bytesLess (zs[k]'hkl).s.toList zs[j].s.toList) := Lib.hid rfl
            clear hz hR GD hg hst hk hB0
            generalize ltS (zs[k]'hkl).s zs[j].s = lt at *
            generalize zs[k]'hkl = px at *
            generalize zs[j] = x at *
            obtain ⟨xs, xa, xb, xc, xd⟩ := x
            obtain ⟨ps, pa, pb, pc, pd⟩ := px
            simp only at c0 c1 c2 c3 c4 V e0 e1 e2 e3 e4 HW HL p0 p1 p2 p3 p4
            have C := Lib.hid (fun w hp => nameCmp_any ps xs pa pb pc pd xa xb xc xd p w hp)
            have hlt0 := cmpS_lt ps xs
            obtain ⟨q, hqe⟩ : ∃ q, q = cmpS ps xs := ⟨_, rfl⟩
            rw [← hqe] at C hlt0
            clear hqe
            have KX : Hid (W0.cell? ⟨wr.heap.size, 0, none⟩ = some (.string xs) ∧ W0.cell? ⟨wr.heap.size, 1, none⟩ = some (.int .i64 xa) ∧ W0.cell? ⟨wr.heap.size, 2, none⟩ = some (.int .i64 xb) ∧ W0.cell? ⟨wr.heap.size, 3, none⟩ = some (.int .i64 xc) ∧ W0.cell? ⟨wr.heap.size, 4, none⟩ = some (.int .i64 xd) ∧ W0.cell? ⟨g, k * 5, none⟩ = some (.string ps) ∧ W0.cell? ⟨g, k * 5 + 1, none⟩ = some (.int .i64 pa) ∧ W0.cell? ⟨g, k * 5 + 2, none⟩ = some (.int .i64 pb) ∧ W0.cell? ⟨g, k * 5 + 3, none⟩ = some (.int .i64 pc) ∧ W0.cell? ⟨g, k * 5 + 4, none⟩ = some (.int .i64 pd) ∧ Below w.heap.size w W0) := Lib.hid ⟨e0, e1, e2, e3, e4, p0, p1, p2, p3, p4, HB0⟩
            clear e0 e1 e2 e3 e4 HB0 p0 p1 p2 p3 p4
            have hl := HL.out
            cases lt with
            | true =>
              have hn1 : q < 0 := hlt0.2 hl.symm
              have hn : ¬ (0 : Int) ≤ q := by omega
              have hn' : decide ((0 : Int) ≤ q) = false := by simpa using hn1
              clear hn1 hlt0
              have HT : Hid (okZ zs (j + 1) = true) := Lib.hid (by rw [HN.out, HO.out]; rfl)
              clear hl HS HN KS KN
              go_wp2_with fail
              rw [← HW.out]
              clear HW c0 c1 c2 c3 c4
              go_region_held3 (fun W => W.cell? ⟨wr.heap.size, 0, none⟩ = some (.string xs) ∧ W.cell? ⟨wr.heap.size, 1, none⟩ = some (.int .i64 xa) ∧ W.cell? ⟨wr.heap.size, 2, none⟩ = some (.int .i64 xb) ∧ W.cell? ⟨wr.heap.size, 3, none⟩ = some (.int .i64 xc) ∧ W.cell? ⟨wr.heap.size, 4, none⟩ = some (.int .i64 xd) ∧ W.cell? ⟨g, k * 5, none⟩ = some (.string ps) ∧ W.cell? ⟨g, k * 5 + 1, none⟩ = some (.int .i64 pa) ∧ W.cell? ⟨g, k * 5 + 2, none⟩ = some (.int .i64 pb) ∧ W.cell? ⟨g, k * 5 + 3, none⟩ = some (.int .i64 pc) ∧ W.cell? ⟨g, k * 5 + 4, none⟩ = some (.int .i64 pd) ∧ Below w.heap.size w W) (first | (exact keepI2 KX.out (drewS W0)) | (exact keepI2 KX.out y2) | (exact keepI2 KX.out y1) | go_keep) ((first
                | (go_at_call 30; refine (V.out _).mono ?_; rintro e x1 ⟨rfl, hx1⟩; have y1 := undrewS hx1)
                | (go_at_call 107; refine (C.out _ (HQ.out _ y1)).mono ?_; rintro e x2 ⟨rfl, hx2⟩; have y2 := y1.trans (hx2.mono y1.size))))
              rename_i held
              have HH := Lib.hid held.2.2.2.2.2.2.2.2.2.2
              clear held KX
              go_wp2_with fail
              go_roundg (zs.length + 1 - (j + 1))
              case measure => omega
              case rel => exact ⟨j + 1, by go_num, by omega, by omega, HT, HH⟩
            | false =>
              have hn1 : ¬ q < 0 := fun h => by rw [hlt0.1 h] at hl; cases hl
              have hn : (0 : Int) ≤ q := by omega
              have hn' : decide ((0 : Int) ≤ q) = true := by simpa using hn
              clear hn1 hlt0
              have hr : r = false := HS.out rfl
              subst hr
              clear hl HS HN KS KN
              go_wp2_with fail
              rw [← HW.out]
              clear HW c0 c1 c2 c3 c4
              go_region_held3 (fun W => W.cell? ⟨wr.heap.size, 0, none⟩ = some (.string xs) ∧ W.cell? ⟨wr.heap.size, 1, none⟩ = some (.int .i64 xa) ∧ W.cell? ⟨wr.heap.size, 2, none⟩ = some (.int .i64 xb) ∧ W.cell? ⟨wr.heap.size, 3, none⟩ = some (.int .i64 xc) ∧ W.cell? ⟨wr.heap.size, 4, none⟩ = some (.int .i64 xd) ∧ W.cell? ⟨g, k * 5, none⟩ = some (.string ps) ∧ W.cell? ⟨g, k * 5 + 1, none⟩ = some (.int .i64 pa) ∧ W.cell? ⟨g, k * 5 + 2, none⟩ = some (.int .i64 pb) ∧ W.cell? ⟨g, k * 5 + 3, none⟩ = some (.int .i64 pc) ∧ W.cell? ⟨g, k * 5 + 4, none⟩ = some (.int .i64 pd) ∧ Below w.heap.size w W) (first | (exact keepI2 KX.out (drewS W0)) | (exact keepI2 KX.out y2) | (exact keepI2 KX.out y1) | go_keep) ((first
                | (go_at_call 30; refine (V.out _).mono ?_; rintro e x1 ⟨rfl, hx1⟩; have y1 := undrewS hx1)
                | (go_at_call 107; refine (C.out _ (HQ.out _ y1)).mono ?_; rintro e x2 ⟨rfl, hx2⟩; have y2 := y1.trans (hx2.mono y1.size))))
              rename_i held
              have HH := Lib.hid held.2.2.2.2.2.2.2.2.2.2
              clear held KX
              go_wp2_with fail
              go_ret
              exact ⟨rfl, HH.out⟩
      · obtain rfl : j = zs.length := by omega
        go_wp2_with fail
        go_ret
        refine ⟨ret_bool ?_, HB.out⟩
        rw [HE.out, HO.out]
set_option maxHeartbeats 400000 in
theorem named_any (g cap : Nat) (zs : List StarV) (w : World) (hb : zs.length ≤ 1048577) (h1 : Row w g zs) (hok : ∀ j, (h : j < zs.length) → zs[j].ok) :
    Calls Tryz.prog 64 #[.slice (some ⟨g, 0, none⟩) zs.length cap, .int .i64 24, .func (.func 30) #[] #[], .func (.func 65) #[] #[]] w fun e w' => e = .returned (.bool (okL zs)) ∧ Below w.heap.size w w' := by
  have hB : Below w.heap.size w (w.alloc (.cells #[.func (.func 65) #[] #[]] 99)) := (Below.refl _ w).alloc (Nat.le_refl _) _
  have O := Lib.hid (incr_any g cap w.heap.size zs _ hb (h1.below hB) hok (show (w.alloc (.cells #[.func (.func 65) #[] #[]] 99)).cell? ⟨w.heap.size, 0, none⟩ = _ by simp))
  have HB := Lib.hid hB
  clear h1 hok hB
  generalize okL zs = r at *
  go_enter Tryz.func64, Tryz.ntmps64
  go_wp2_with fail
  refine O.out.mono ?_
  rintro e w1 ⟨rfl, hb1⟩
  have HB1 := Lib.hid (HB.out.trans (hb1.mono HB.out.size))
  clear hb1
  go_wp2_with fail
  go_ret
  exact ⟨rfl, HB1.out⟩
set_option maxHeartbeats 400000 in
theorem validStars_any (g cap : Nat) (zs : List StarV) (w : World) (hb : zs.length ≤ 1048577) (h1 : Row w g zs) (hok : ∀ j, (h : j < zs.length) → zs[j].ok) :
    Calls Tryz.prog 41 #[.slice (some ⟨g, 0, none⟩) zs.length cap] w fun e w' => e = .returned (.bool (okL zs)) ∧ Below w.heap.size w w' := by
  have O := Lib.hid (named_any g cap zs w hb h1 hok)
  clear h1 hok
  generalize okL zs = r at *
  go_enter Tryz.func41, Tryz.ntmps41
  go_wp2_with fail
  refine O.out.mono ?_
  rintro e w1 ⟨rfl, hb1⟩
  have HB := Lib.hid hb1
  clear hb1
  go_wp2_with fail
  go_ret
  exact ⟨rfl, HB.out⟩
end Go.Proofs.YtjghopepgfgebaaGreatDoor
