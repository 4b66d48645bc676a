/-
  MirrorMesh (packages spec and impl).
-/
import Derived.Test.YtbbkohpmncfilaaPln
namespace Go.Proofs.Ytbbkohpmncfilaa.Me
open Go.RowKit
open Sp (V Row)
set_option linter.unusedVariables false

def gp (zs : List V) (k : Nat) : V := zs.getD k ⟨0, 0⟩
theorem gp_at (zs : List V) (k : Nat) (hk : k < zs.length) : gp zs k = zs[k] := by unfold gp; rw [List.getD_eq_getElem?_getD, List.getElem?_eq_getElem hk]; rfl
theorem Row.gp {w : World} {g : Nat} {zs : List V} (h : Row w g zs) (k : Nat) (hk : k < zs.length) : Sp.At w g (k * 2) (gp zs k) := by rw [gp_at zs k hk]; exact h.at k hk
theorem gp_bd {zs : List V} (h : zs.all ptB = true) (k : Nat) (hk : k < zs.length) : (-2000000 ≤ (gp zs k).f0 ∧ (gp zs k).f0 ≤ 2000000) ∧ (-2000000 ≤ (gp zs k).f1 ∧ (gp zs k).f1 ≤ 2000000) := by
  rw [gp_at zs k hk]
  exact ptB_bd (List.all_eq_true.1 h _ (List.getElem_mem hk))
theorem meshB_parts {c r : Int} {zs : List V} (h : meshB c r zs = true) : ∃ C R : Nat, c = (C : Int) ∧ r = (R : Int) ∧ (2 ≤ C ∧ C ≤ 9) ∧ (2 ≤ R ∧ R ≤ 9) ∧ zs.length = C * R ∧ C * R ≤ 81 ∧ zs.all ptB = true := by
  unfold meshB at h
  simp only [Bool.and_eq_true, decide_eq_true_eq] at h
  obtain ⟨hs, hl, ha⟩ := h
  obtain ⟨hc, hr⟩ := sizeB_bd hs
  have hm := mul_bd hc hr
  obtain ⟨C, rfl⟩ : ∃ C : Nat, c = (C : Int) := ⟨c.toNat, by omega⟩
  obtain ⟨R, rfl⟩ : ∃ R : Nat, r = (R : Int) := ⟨r.toNat, by omega⟩
  have e : ((C * R : Nat) : Int) = (C : Int) * (R : Int) := Int.natCast_mul C R
  exact ⟨C, R, rfl, rfl, by omega, by omega, by omega, by omega, ha⟩

set_option maxRecDepth 100000 in
set_option maxHeartbeats 1000000 in
theorem point_any (c r i j : Int) (g cap : Nat) (zs : List V) (k : Nat) (hl : zs.length ≤ 100) (hi : 0 ≤ i ∧ i ≤ 100) (hp : 0 ≤ j * c ∧ j * c ≤ 100) (ek : j * c + i = (k : Int)) (hk : k < zs.length) (w : World) (h1 : Row w g zs) :
    Calls Try.prog 80 #[.agg #[.int .i64 c, .int .i64 r, .slice (some ⟨g, 0, none⟩) zs.length cap], .int .i64 i, .int .i64 j] w fun e w' => e = .returned (.agg #[.int .i64 (gp zs k).f0, .int .i64 (gp zs k).f1]) ∧ Below w.heap.size w w' := by
  have hlg := h1.lt
  obtain ⟨c0, c1⟩ := Row.gp h1 k hk
  generalize (gp zs k).f0 = x0 at *
  generalize (gp zs k).f1 = x1 at *
  clear h1
  have k1 : (k : Int) < (zs.length : Int) := by omega
  go_enter Try.func80, Try.ntmps80
  go_wp2_with fail
  refine bodyPost_ret (v := .agg #[.int .i64 x0, .int .i64 x1]) (by simp [results, Try.results80, go_sem]) rfl ⟨rfl, ?_⟩
  repeat (first | exact Below.refl _ _ | refine Below.setCell ?_ (by first | (simp; done) | omega | (simp; omega)) _ | refine Below.alloc ?_ (by first | (simp; done) | omega | (simp; omega)) _ | refine bel_drew ?_)

/-- A point of the mirrored mesh. -/
def mirPt (zs : List V) (C : Nat) (x y : Nat) : Int × Int := (-(gp zs (y * C + (C - 1 - x))).f0, (gp zs (y * C + (C - 1 - x))).f1)
def mirL (zs : List V) (C R : Nat) : List V := (gridL C (R * C)).map (ptV (mirPt zs C))
theorem mirL_len (zs : List V) (C R : Nat) : (mirL zs C R).length = R * C := by unfold mirL; rw [List.length_map, gridL_len]
def mirrorR (c r : Int) (zs : List V) : MR := if meshB c r zs = true then ((c, r, mirL zs c.toNat r.toNat), 0) else mErr 1
theorem mir_place {C R x y : Nat} (hx : x < C) (hy : y < R) : y * C + (C - 1 - x) < C * R ∧ ((y : Int) * (C : Int) + ((C : Int) - 1 - (x : Int)) = ((y * C + (C - 1 - x) : Nat) : Int)) := by
  refine ⟨place_bd (C := C) (R := R) (row := y) (col := C - 1 - x) (by omega) hy, ?_⟩
  have e : ((y * C : Nat) : Int) = (y : Int) * (C : Int) := Int.natCast_mul y C
  omega
theorem mir_mul {C R y : Nat} (hy : y < R) (h : C * R ≤ 81) : 0 ≤ (y : Int) * (C : Int) ∧ (y : Int) * (C : Int) ≤ 81 := by
  have e : ((y * C : Nat) : Int) = (y : Int) * (C : Int) := Int.natCast_mul y C
  have : y * C ≤ R * C := Nat.mul_le_mul_right C (by omega)
  rw [Nat.mul_comm R C] at this
  omega
theorem mirPt_bd {zs : List V} (h : zs.all ptB = true) {C R x y : Nat} (hl : zs.length = C * R) (hx : x < C) (hy : y < R) : -2000000 ≤ (gp zs (y * C + (C - 1 - x))).f0 ∧ (gp zs (y * C + (C - 1 - x))).f0 ≤ 2000000 := (gp_bd h _ (by rw [hl]; exact (mir_place hx hy).1)).1

set_option maxRecDepth 100000 in
set_option maxHeartbeats 4000000 in
theorem specMirror_any (c r : Int) (g cap : Nat) (zs : List V) (w : World) (hb : zs.length ≤ 1048577) (h1 : Row w g zs) :
    Calls Try.prog 36 #[.agg #[.int .i64 c, .int .i64 r, .slice (some ⟨g, 0, none⟩) zs.length cap]] w (MPost (mirrorR c r zs) w) := by
  obtain ⟨i0, hi, hzz⟩ := Option.map_eq_some_iff.1 Sp.info_rec
  simp only [Prod.mk.injEq] at hzz
  obtain ⟨hz0, hz1, hz2⟩ := hzz
  have HI0 := Lib.hid hi
  have HZ0 := Lib.hid hz0
  have HZ1 := Lib.hid hz1
  have HZ2 := Lib.hid hz2
  clear hi hz0 hz1 hz2
  have H1 := Lib.hid h1
  have hlg := h1.lt
  clear h1
  have OK := Lib.hid (fun b w hm h1 => l11Ok_any b c r g cap zs w hb hm h1)
  unfold mirrorR
  cases hm : meshB c r zs with
  | false =>
    rw [hm] at OK
    rw [if_neg (by simp)]
    clear hm HI0 HZ0 HZ1 HZ2
    go_enter Try.func36, Try.ntmps36
    go_wp2_with fail
    obtain ⟨W0, hW0⟩ : ∃ W, W = (w.alloc (Obj.cells #[Value.int IntKind.i64 c, Value.int IntKind.i64 r, Value.slice (some ⟨g, 0, none⟩) zs.length cap] 29)).alloc (Obj.cells #[Value.int IntKind.i64 0, Value.int IntKind.i64 0, Value.slice none 0 0] 29) := ⟨_, rfl⟩
    rw [← hW0]
    have hS0 : W0.heap.size = w.heap.size + 2 := by rw [hW0]; simp
    have HB0 : Hid (Below w.heap.size w W0) := Lib.hid (by
      rw [hW0]
      repeat (first | exact Below.refl _ _ | refine Below.setCell ?_ (by first | (simp; done) | omega | (simp; omega)) _ | refine Below.alloc ?_ (by first | (simp; done) | omega | (simp; omega)) _ | refine bel_drew ?_)
      )
    have R0 : W0.heap[w.heap.size + 1]? = some rz := by
      rw [hW0]
      have e := World.alloc_heap_new (w.alloc (Obj.cells #[Value.int IntKind.i64 c, Value.int IntKind.i64 r, Value.slice (some ⟨g, 0, none⟩) zs.length cap] 29)) rz
      rw [World.size_alloc] at e
      exact e
    have M0 : Hid (MAt W0 w.heap.size c r (.slice (some ⟨g, 0, none⟩) zs.length cap)) := Lib.hid (by
      rw [hW0]
      exact (MAt.new w c r _ _).below ((Below.refl _ _).alloc (Nat.le_refl _) _))
    clear hW0
    refine (OK.out w.heap.size _ M0.out (H1.out.below HB0.out)).mono ?_
    rintro e w1 ⟨rfl, hb1⟩
    have hs1 : w.heap.size + 2 ≤ w1.heap.size := by have := hb1.size; omega
    have HB1 := Lib.hid (HB0.out.trans (hb1.mono HB0.out.size))
    have M1 := Lib.hid (M0.out.below hb1)
    have RH : Hid (w1.heap[w.heap.size + 1]? = some rz) := Lib.hid ((hb1.block _ (by omega)).trans R0)
    obtain ⟨m0, m1, m2⟩ := M1.out
    have hrz := RH.out
    have r0 : w1.cell? ⟨w.heap.size + 1, 0, none⟩ = some (.int .i64 0) := by simp [World.cell?, hrz]
    have r1 : w1.cell? ⟨w.heap.size + 1, 1, none⟩ = some (.int .i64 0) := by simp [World.cell?, hrz]
    have r2 : w1.cell? ⟨w.heap.size + 1, 2, none⟩ = some (.slice none 0 0) := by simp [World.cell?, hrz]
    have f0 : w1.frozen? ⟨w.heap.size + 1, 0, none⟩ = false := by simp [World.frozen?, hrz]
    have f1 : w1.frozen? ⟨w.heap.size + 1, 1, none⟩ = false := by simp [World.frozen?, hrz]
    have f2 : w1.frozen? ⟨w.heap.size + 1, 2, none⟩ = false := by simp [World.frozen?, hrz]
    clear hb1 hrz R0 M0
    go_wp2_with fail
    refine bodyPost_ret (v := .tuple #[.agg #[.int .i64 0, .int .i64 0, .slice none 0 0], .int .i64 1]) (by simp [results, Try.results36, go_sem, r0, r1, r2]) rfl ⟨_, rfl, Sp.Own.nil _ _ _, ?_⟩
    repeat (first | exact Below.refl _ _ | exact HB1.out | refine Below.setCell ?_ (by first | (simp; done) | omega | (simp; omega)) _ | refine Below.alloc ?_ (by first | (simp; done) | omega | (simp; omega)) _ | refine bel_drew ?_)
  | true =>
    rw [hm] at OK
    rw [if_pos rfl]
    obtain ⟨C, R, rfl, rfl, hC, hR, hlen, h81, hall⟩ := meshB_parts hm
    simp only [Int.toNat_natCast]
    have BD := Lib.hid (fun x y hx hy => mirPt_bd (C := C) (R := R) (x := x) (y := y) hall hlen hx hy)
    have RP := Lib.hid (fun (W : World) (hW : Row W g zs) k hk => Row.gp hW k hk)
    have NXT : Hid (∀ row col : Nat, col < C → (gridL C (row * C + (col + 1))).map (ptV (mirPt zs C)) = (gridL C (row * C + col)).map (ptV (mirPt zs C)) ++ [⟨-(gp zs (row * C + (C - 1 - col))).f0, (gp zs (row * C + (C - 1 - col))).f1⟩]) := Lib.hid (fun row col hc => by
      rw [← Nat.add_assoc, gridL_next C row col hc, List.map_append]
      rfl)
    have HLEN := Lib.hid hlen
    clear hlen
    have ML : Hid (mirL zs C R = (gridL C (R * C)).map (ptV (mirPt zs C))) := Lib.hid rfl
    generalize mirL zs C R = ML0 at *
    have LN : Hid (∀ k, ((gridL C k).map (ptV (mirPt zs C))).length = k) := Lib.hid (fun k => by rw [List.length_map, gridL_len])
    have G00 : Hid ((gridL C (0 * C)).map (ptV (mirPt zs C)) = []) := Lib.hid (by rw [Nat.zero_mul]; rfl)
    generalize hgr : (fun k => (gridL C k).map (ptV (mirPt zs C))) = GR
    have hgr' : ∀ k, (gridL C k).map (ptV (mirPt zs C)) = GR k := fun k => by rw [← hgr]
    simp only [hgr'] at NXT ML LN G00
    clear hgr hgr' hm hall
    go_enter Try.func36, Try.ntmps36
    go_wp2_with fail
    obtain ⟨W0, hW0⟩ : ∃ W, W = (w.alloc (Obj.cells #[Value.int IntKind.i64 (C : Int), Value.int IntKind.i64 (R : Int), Value.slice (some ⟨g, 0, none⟩) zs.length cap] 29)).alloc (Obj.cells #[Value.int IntKind.i64 0, Value.int IntKind.i64 0, Value.slice none 0 0] 29) := ⟨_, rfl⟩
    rw [← hW0]
    have hS0 : W0.heap.size = w.heap.size + 2 := by rw [hW0]; simp
    have HB0 : Hid (Below w.heap.size w W0) := Lib.hid (by
      rw [hW0]
      repeat (first | exact Below.refl _ _ | refine Below.setCell ?_ (by first | (simp; done) | omega | (simp; omega)) _ | refine Below.alloc ?_ (by first | (simp; done) | omega | (simp; omega)) _ | refine bel_drew ?_)
      )
    have R0 : W0.heap[w.heap.size + 1]? = some rz := by
      rw [hW0]
      have e := World.alloc_heap_new (w.alloc (Obj.cells #[Value.int IntKind.i64 (C : Int), Value.int IntKind.i64 (R : Int), Value.slice (some ⟨g, 0, none⟩) zs.length cap] 29)) rz
      rw [World.size_alloc] at e
      exact e
    have M0 : Hid (MAt W0 w.heap.size (C : Int) (R : Int) (.slice (some ⟨g, 0, none⟩) zs.length cap)) := Lib.hid (by
      rw [hW0]
      exact (MAt.new w (C : Int) (R : Int) _ _).below ((Below.refl _ _).alloc (Nat.le_refl _) _))
    clear hW0
    refine (OK.out w.heap.size _ M0.out (H1.out.below HB0.out)).mono ?_
    rintro e w1 ⟨rfl, hb1⟩
    have hs1 : w.heap.size + 2 ≤ w1.heap.size := by have := hb1.size; omega
    have HB1 := Lib.hid (HB0.out.trans (hb1.mono HB0.out.size))
    have M1 := Lib.hid (M0.out.below hb1)
    have RH : Hid (w1.heap[w.heap.size + 1]? = some rz) := Lib.hid ((hb1.block _ (by omega)).trans R0)
    obtain ⟨m0, m1, m2⟩ := M1.out
    have hrz := RH.out
    have r0 : w1.cell? ⟨w.heap.size + 1, 0, none⟩ = some (.int .i64 0) := by simp [World.cell?, hrz]
    have r1 : w1.cell? ⟨w.heap.size + 1, 1, none⟩ = some (.int .i64 0) := by simp [World.cell?, hrz]
    have r2 : w1.cell? ⟨w.heap.size + 1, 2, none⟩ = some (.slice none 0 0) := by simp [World.cell?, hrz]
    have f0 : w1.frozen? ⟨w.heap.size + 1, 0, none⟩ = false := by simp [World.frozen?, hrz]
    have f1 : w1.frozen? ⟨w.heap.size + 1, 1, none⟩ = false := by simp [World.frozen?, hrz]
    have f2 : w1.frozen? ⟨w.heap.size + 1, 2, none⟩ = false := by simp [World.frozen?, hrz]
    clear hb1 hrz R0 M0
    clear OK
    go_wp2_with fail
    obtain ⟨W2, hW2⟩ : ∃ W, W = w1.alloc (Obj.cells #[Value.int IntKind.i64 (C : Int), Value.int IntKind.i64 (R : Int), Value.slice none 0 0] 29) := ⟨_, rfl⟩
    rw [← hW2]
    have hS2 : W2.heap.size = w1.heap.size + 1 := by rw [hW2]; simp
    have hb2 : Below w1.heap.size w1 W2 := by rw [hW2]; exact (Below.refl _ _).alloc (Nat.le_refl _) _
    have HB2 := Lib.hid (HB1.out.trans (hb2.mono HB1.out.size))
    have M2 := Lib.hid (M1.out.below hb2)
    have R2 : Hid (W2.heap[w.heap.size + 1]? = some rz) := Lib.hid ((hb2.block _ (by omega)).trans RH.out)
    have G0 : Hid (GM W2 w1.heap.size (w1.heap.size + 1) (C : Int) (R : Int) (GR (0 * C))) := Lib.hid (by
      rw [G00.out]
      refine GM.start ?_
      rw [hW2]
      exact World.alloc_heap_new w1 _)
    clear hW2 hb2 m0 m1 m2 r0 r1 r2 f0 f1 f2 RH M1
    go_loopg [5] (R + 1) (fun kx s5 wr => ∃ row : Nat, s5 = .int .i64 (row : Int) ∧ row ≤ R ∧ kx = R + 1 - row ∧ Hid (GM wr w1.heap.size (w1.heap.size + 1) (C : Int) (R : Int) (GR (row * C))) ∧ Hid (Kn w1.heap.size (w1.heap.size + 1) W2 wr))
    case atStart => exact ⟨0, rfl, Nat.zero_le _, rfl, G0, Lib.hid (Kn.refl _ _ _)⟩
    case round =>
      clear G0
      obtain ⟨row, rfl, hrow, rfl, HG, HK⟩ := hrel
      have m0 := HK.out.cell M2.out.c0 (by omega) (by omega)
      have m1 := HK.out.cell M2.out.c1 (by omega) (by omega)
      have m2 := HK.out.cell M2.out.c2 (by omega) (by omega)
      by_cases hlt : row < R
      · go_wp2_with fail
        clear m0 m1 m2
        go_loopg [6] (C + 1) (fun kx s6 wr => ∃ col : Nat, s6 = .int .i64 (col : Int) ∧ col ≤ C ∧ kx = C + 1 - col ∧ Hid (GM wr w1.heap.size (w1.heap.size + 1) (C : Int) (R : Int) (GR (row * C + col))) ∧ Hid (Kn w1.heap.size (w1.heap.size + 1) W2 wr))
        case atStart => exact ⟨0, rfl, Nat.zero_le _, rfl, HG, HK⟩
        case round =>
          clear HG HK
          obtain ⟨col, rfl, hcol, rfl, HG, HK⟩ := hrel
          have m0 := HK.out.cell M2.out.c0 (by omega) (by omega)
          have m1 := HK.out.cell M2.out.c1 (by omega) (by omega)
          have m2 := HK.out.cell M2.out.c2 (by omega) (by omega)
          by_cases hlt2 : col < C
          · have HBr := Lib.hid (HB2.out.trans (HK.out.below (A := w.heap.size) (by omega) (by omega)))
            have pl := mir_place hlt2 hlt
            have pm := mir_mul (C := C) hlt h81
            have bd := BD.out col row hlt2 hlt
            obtain ⟨c0, c1⟩ := RP.out _ (H1.out.below HBr.out) (row * C + (C - 1 - col)) (by rw [HLEN.out]; exact pl.1)
            have NX := Lib.hid (NXT.out row col hlt2)
            have hln := LN.out (row * C + col)
            have h80 : row * C + col ≤ 81 := by have := place_bd hlt2 hlt; omega
            rw [← hln] at h80
            clear hln
            have ek := pl.2
            have kl : row * C + (C - 1 - col) < zs.length := by rw [HLEN.out]; exact pl.1
            generalize row * C + (C - 1 - col) = k at *
            have ek2 : (row : Int) * (C : Int) + (C : Int) - 1 - (col : Int) = (k : Int) := by omega
            generalize (gp zs k).f0 = x0 at *
            generalize (gp zs k).f1 = x1 at *
            clear ek pl
            generalize GR (row * C + col) = L at *
            obtain ⟨a, cap2, k0, k1, k2, kf, ho, hv⟩ := HG.out.cells
            have hi := HI0.out
            have hz0 := HZ0.out
            have hz1 := HZ1.out
            have hz2 := HZ2.out
            have hsz : w1.heap.size + 1 ≤ wr.heap.size := by have := HK.out.size; omega
            have wn : IntKind.i64.wrap (-x0) = -x0 := IntWalk.i64_in _ (by omega)
            have ST := Lib.hid (fun (w4 : World) (v' : Value) (o : Obj) hg h4 => GM.step (W3 := wr.alloc (Obj.cells #[.int .i64 x0, .int .i64 x1] 39)) (w4 := w4) (v' := v') (o := o) (x := ⟨-x0, x1⟩) hv ho (by omega) hsz ((Below.refl _ _).alloc (Nat.le_refl _) _) hg h4)
            have E1 := Lib.hid (Sp.new_cells (wr.alloc (Obj.cells #[.int .i64 x0, .int .i64 x1] 39)) (-x0) x1 39)
            have hwn : w1.heap.size ≠ wr.heap.size := by omega
            have hmn : w.heap.size ≠ wr.heap.size := by omega
            have hml : w.heap.size < wr.heap.size := by omega
            have hBl : w1.heap.size < wr.heap.size := by omega
            go_wp2_with (at_builtin; refine wpList_append_lies _ rfl _ _ 27 rfl (w1.heap.size + 1) 39 i0 (.agg #[.int .i64 0, .int .i64 0]) 2 16 Try.underlying27 hi hz0 hz1 hz2 rfl (by decide) _ _ _ rfl ((ho.alloc _).alloc _) ⟨wr.heap.size + 1, 0, none⟩ 1 1 [.int .i64 (-x0), .int .i64 x1] rfl rfl ?c1 ?c2 ?c0 ?c3 ?c4 ?c5 (wr.heap.size + 2) ?c6 ?_)
            case c1 => have e := E1.out; rw [World.size_alloc] at e; exact e
            case c2 => exact Sp.cells_one _ _
            case c0 => omega
            case c3 => unfold maxLen; omega
            case c4 => omega
            case c5 => simp; omega
            case c6 => simp
            intro gg cap3 w5 hown' hgrow hlies hlt3
            obtain ⟨⟨hc4, hf4⟩, hG4, hK4⟩ := ST.out w5 _ _ hgrow hown'
            have HG4 := Lib.hid hG4
            have HK4 := Lib.hid (HK.out.trans hK4)
            clear hG4 hK4 ST k0 k1 k2 kf ho hv hgrow hown' hlies hi hz0 hz1 hz2 m0 m1 m2 c0 c1 E1
            go_wp2_with fail
            go_roundg (C + 1 - (col + 1))
            case measure => omega
            case rel => exact ⟨col + 1, by go_num, by omega, rfl, by rw [NX.out]; exact HG4, HK4⟩
          · obtain rfl : col = C := by omega
            go_wp2_with fail
            go_roundg (R + 1 - (row + 1))
            case measure => omega
            case rel => exact ⟨row + 1, by go_num, by omega, rfl, by rw [Nat.add_mul, Nat.one_mul]; exact HG, HK⟩
      · obtain rfl : row = R := by omega
        obtain ⟨a, cap2, k0, k1, k2, kf, ho, hv⟩ := HG.out.cells
        have HB := Lib.hid (HB2.out.trans (HK.out.below (A := w.heap.size) (by omega) (by omega)))
        have hrz : wr.heap[w.heap.size + 1]? = some rz := (HK.out.block _ (by omega) (by omega)).trans R2.out
        have r0 : wr.cell? ⟨w.heap.size + 1, 0, none⟩ = some (.int .i64 0) := by simp [World.cell?, hrz]
        have r1 : wr.cell? ⟨w.heap.size + 1, 1, none⟩ = some (.int .i64 0) := by simp [World.cell?, hrz]
        have r2 : wr.cell? ⟨w.heap.size + 1, 2, none⟩ = some (.slice none 0 0) := by simp [World.cell?, hrz]
        have f0 : wr.frozen? ⟨w.heap.size + 1, 0, none⟩ = false := by simp [World.frozen?, hrz]
        have f1 : wr.frozen? ⟨w.heap.size + 1, 1, none⟩ = false := by simp [World.frozen?, hrz]
        have f2 : wr.frozen? ⟨w.heap.size + 1, 2, none⟩ = false := by simp [World.frozen?, hrz]
        have O1 := Lib.hid (Sp.Own.mk ho)
        have hGR := ML.out
        rw [← hGR] at O1 k2
        have hnn : w.heap.size + 1 ≠ w1.heap.size := by omega
        have hll : w.heap.size + 1 < wr.heap.size := by have := HK.out.size; omega
        clear ho hv HG HK kf hrz hGR
        go_wp2_with fail
        refine bodyPost_ret (v := .tuple #[.agg #[.int .i64 (C : Int), .int .i64 (row : Int), .slice a ML0.length cap2], .int .i64 0]) (by simp [results, Try.results36, go_sem, r0, r1, r2]) rfl ⟨_, rfl, ?_, ?_⟩
        · refine Sp.Own.le (Sp.Own.mod O1.out (B' := 0) (C' := w.heap.size + 2) ?_ (Or.inr (by omega))) (by omega) (by simp)
          repeat (first | exact Mod.refl _ _ _ | refine Mod.setCell ?_ (by omega) (by omega) _)
        ·
          repeat (first | exact Below.refl _ _ | exact HB.out | refine Below.setCell ?_ (by first | (simp; done) | omega | (simp; omega)) _ | refine Below.alloc ?_ (by first | (simp; done) | omega | (simp; omega)) _ | refine bel_drew ?_)

set_option maxRecDepth 100000 in
set_option maxHeartbeats 2000000 in
theorem mirAt_any (C R : Nat) (g cap : Nat) (zs : List V) (hC : 2 ≤ C ∧ C ≤ 9) (hlen : zs.length = C * R) (h81 : C * R ≤ 81) (hall : zs.all ptB = true) (x y : Nat) (hx : x < C) (hy : y < R) (b : Nat) (w : World) (hM : MAt w b (C : Int) (R : Int) (.slice (some ⟨g, 0, none⟩) zs.length cap)) (h1 : Row w g zs) :
    Calls Try.prog 82 #[.int .i64 (x : Int), .int .i64 (y : Int), .pointer (some ⟨b, 0, none⟩)] w fun e w' => e = .returned (.agg #[.int .i64 (mirPt zs C x y).1, .int .i64 (mirPt zs C x y).2]) ∧ Below w.heap.size w w' := by
  have pl := mir_place hx hy
  have pm := mir_mul (C := C) hy h81
  have bd := mirPt_bd hall hlen hx hy
  have kl : y * C + (C - 1 - x) < zs.length := by rw [hlen]; exact pl.1
  have hl100 : zs.length ≤ 100 := by omega
  have ek := pl.2
  unfold mirPt
  simp only
  clear pl hlen
  generalize y * C + (C - 1 - x) = k at *
  have P := Lib.hid (fun W (hW : Row W g zs) => point_any (C : Int) (R : Int) ((C : Int) - 1 - (x : Int)) (y : Int) g cap zs k hl100 (by omega) (by omega) ek kl W hW)
  generalize (gp zs k).f0 = x0 at *
  generalize (gp zs k).f1 = x1 at *
  obtain ⟨m0, m1, m2⟩ := hM
  have hbl : b < w.heap.size := World.block_lt_of_cell? w ⟨b, 0, none⟩ m0
  have hbn : b ≠ w.heap.size := by omega
  have wn : IntKind.i64.wrap (-x0) = -x0 := IntWalk.i64_in _ (by omega)
  have H1 := Lib.hid (h1.below ((Below.refl _ w).alloc (Nat.le_refl _) (Obj.cells #[Value.int IntKind.i64 0, Value.int IntKind.i64 0] 39)))
  clear h1 ek kl hl100 h81 hall
  go_enter Try.func82, Try.ntmps82
  go_wp2_with fail
  have Z0 : (w.alloc (Obj.cells #[Value.int IntKind.i64 0, Value.int IntKind.i64 0] 39)).heap[w.heap.size]? = some (.cells #[.int .i64 0, .int .i64 0] 39 (0, 0)) := World.alloc_heap_new w _
  have hB0 : Below w.heap.size w (w.alloc (Obj.cells #[Value.int IntKind.i64 0, Value.int IntKind.i64 0] 39)) := (Below.refl _ _).alloc (Nat.le_refl _) _
  have hZs : w.heap.size < (w.alloc (Obj.cells #[Value.int IntKind.i64 0, Value.int IntKind.i64 0] 39)).heap.size := by simp
  obtain ⟨W1, hW1⟩ : ∃ W, W = w.alloc (Obj.cells #[Value.int IntKind.i64 0, Value.int IntKind.i64 0] 39) := ⟨_, rfl⟩
  rw [← hW1] at Z0 hB0 hZs H1 ⊢
  clear hW1
  refine (P.out _ H1.out).mono ?_
  rintro e y1 ⟨rfl, hy1⟩
  have hz := (hy1.block _ hZs).trans Z0
  have r0 : y1.cell? ⟨w.heap.size, 0, none⟩ = some (.int .i64 0) := by simp [World.cell?, hz]
  have r1 : y1.cell? ⟨w.heap.size, 1, none⟩ = some (.int .i64 0) := by simp [World.cell?, hz]
  have f0 : y1.frozen? ⟨w.heap.size, 0, none⟩ = false := by simp [World.frozen?, hz]
  have f1 : y1.frozen? ⟨w.heap.size, 1, none⟩ = false := by simp [World.frozen?, hz]
  have HB := Lib.hid (hB0.trans (hy1.mono hB0.size))
  have hll : w.heap.size < y1.heap.size := by have := hy1.size; omega
  have hnn : w.heap.size ≠ y1.heap.size := by omega
  clear hy1 hz Z0 hB0 m0 m1 m2
  go_wp2_with fail
  refine bodyPost_ret (v := .agg #[.int .i64 (-x0), .int .i64 x1]) (by simp [results, Try.results82, go_sem, r0, r1, hll, hnn]) rfl ⟨rfl, ?_⟩
  repeat (first | exact Below.refl _ _ | exact HB.out | refine Below.setCell ?_ (by first | (simp; done) | omega | (simp; omega)) _ | refine Below.alloc ?_ (by first | (simp; done) | omega | (simp; omega)) _ | refine bel_drew ?_)

set_option maxRecDepth 100000 in
set_option maxHeartbeats 4000000 in
theorem implMirror_any (c r : Int) (g cap : Nat) (zs : List V) (w : World) (hb : zs.length ≤ 1048577) (h1 : Row w g zs) :
    Calls Try.prog 37 #[.agg #[.int .i64 c, .int .i64 r, .slice (some ⟨g, 0, none⟩) zs.length cap]] w (MPost (mirrorR c r zs) w) := by
  have H1 := Lib.hid h1
  have hlg := h1.lt
  clear h1
  have OK := Lib.hid (fun w h1 => validMesh_any c r g cap zs w hb h1)
  unfold mirrorR
  cases hm : meshB c r zs with
  | false =>
    rw [hm] at OK
    rw [if_neg (by simp)]
    clear hm
    go_enter Try.func37, Try.ntmps37
    go_wp2_with fail
    obtain ⟨W0, hW0⟩ : ∃ W, W = (w.alloc (Obj.cells #[Value.int IntKind.i64 c, Value.int IntKind.i64 r, Value.slice (some ⟨g, 0, none⟩) zs.length cap] 29)).alloc (Obj.cells #[Value.int IntKind.i64 0, Value.int IntKind.i64 0, Value.slice none 0 0] 29) := ⟨_, rfl⟩
    rw [← hW0]
    have hS0 : W0.heap.size = w.heap.size + 2 := by rw [hW0]; simp
    have HB0 : Hid (Below w.heap.size w W0) := Lib.hid (by
      rw [hW0]
      repeat (first | exact Below.refl _ _ | refine Below.setCell ?_ (by first | (simp; done) | omega | (simp; omega)) _ | refine Below.alloc ?_ (by first | (simp; done) | omega | (simp; omega)) _ | refine bel_drew ?_)
      )
    have R0 : W0.heap[w.heap.size + 1]? = some rz := by
      rw [hW0]
      have e := World.alloc_heap_new (w.alloc (Obj.cells #[Value.int IntKind.i64 c, Value.int IntKind.i64 r, Value.slice (some ⟨g, 0, none⟩) zs.length cap] 29)) rz
      rw [World.size_alloc] at e
      exact e
    have M0 : Hid (MAt W0 w.heap.size c r (.slice (some ⟨g, 0, none⟩) zs.length cap)) := Lib.hid (by
      rw [hW0]
      exact (MAt.new w c r _ _).below ((Below.refl _ _).alloc (Nat.le_refl _) _))
    clear hW0
    refine (OK.out _ (H1.out.below HB0.out)).mono ?_
    rintro e w1 ⟨rfl, hb1⟩
    have hs1 : w.heap.size + 2 ≤ w1.heap.size := by have := hb1.size; omega
    have HB1 := Lib.hid (HB0.out.trans (hb1.mono HB0.out.size))
    have M1 := Lib.hid (M0.out.below hb1)
    have RH : Hid (w1.heap[w.heap.size + 1]? = some rz) := Lib.hid ((hb1.block _ (by omega)).trans R0)
    obtain ⟨m0, m1, m2⟩ := M1.out
    have hrz := RH.out
    have r0 : w1.cell? ⟨w.heap.size + 1, 0, none⟩ = some (.int .i64 0) := by simp [World.cell?, hrz]
    have r1 : w1.cell? ⟨w.heap.size + 1, 1, none⟩ = some (.int .i64 0) := by simp [World.cell?, hrz]
    have r2 : w1.cell? ⟨w.heap.size + 1, 2, none⟩ = some (.slice none 0 0) := by simp [World.cell?, hrz]
    have f0 : w1.frozen? ⟨w.heap.size + 1, 0, none⟩ = false := by simp [World.frozen?, hrz]
    have f1 : w1.frozen? ⟨w.heap.size + 1, 1, none⟩ = false := by simp [World.frozen?, hrz]
    have f2 : w1.frozen? ⟨w.heap.size + 1, 2, none⟩ = false := by simp [World.frozen?, hrz]
    clear hb1 hrz R0 M0
    go_wp2_with fail
    refine bodyPost_ret (v := .tuple #[.agg #[.int .i64 0, .int .i64 0, .slice none 0 0], .int .i64 1]) (by simp [results, Try.results37, go_sem, r0, r1, r2]) rfl ⟨_, rfl, Sp.Own.nil _ _ _, ?_⟩
    repeat (first | exact Below.refl _ _ | exact HB1.out | refine Below.setCell ?_ (by first | (simp; done) | omega | (simp; omega)) _ | refine Below.alloc ?_ (by first | (simp; done) | omega | (simp; omega)) _ | refine bel_drew ?_)
  | true =>
    rw [hm] at OK
    rw [if_pos rfl]
    obtain ⟨C, R, rfl, rfl, hC, hR, hlen, h81, hall⟩ := meshB_parts hm
    simp only [Int.toNat_natCast]
    have eg : ∀ args w, (callFunc 82 args).run Try.prog w = .ok (.enter 82 args) w := enters_of Try.func82 (by kernel_rfl) rfl
    have MO := Lib.hid (fun (W : World) (hM : MAt W w.heap.size (C : Int) (R : Int) (.slice (some ⟨g, 0, none⟩) zs.length cap)) (hW : Row W g zs) => meshOf_any 82 #[.pointer (some ⟨w.heap.size, 0, none⟩)] eg (mirPt zs C) C R (by omega) (by omega) W
      (fun W' x y hx hy hB => mirAt_any C R g cap zs hC hlen h81 hall x y hx hy _ W' (hM.below hB) (hW.below hB)))
    have ML : mirL zs C R = (gridL C (R * C)).map (ptV (mirPt zs C)) := rfl
    rw [← ML] at MO
    clear ML eg hlen hall hm
    generalize mirL zs C R = L at *
    go_enter Try.func37, Try.ntmps37
    go_wp2_with fail
    obtain ⟨W0, hW0⟩ : ∃ W, W = (w.alloc (Obj.cells #[Value.int IntKind.i64 (C : Int), Value.int IntKind.i64 (R : Int), Value.slice (some ⟨g, 0, none⟩) zs.length cap] 29)).alloc (Obj.cells #[Value.int IntKind.i64 0, Value.int IntKind.i64 0, Value.slice none 0 0] 29) := ⟨_, rfl⟩
    rw [← hW0]
    have hS0 : W0.heap.size = w.heap.size + 2 := by rw [hW0]; simp
    have HB0 : Hid (Below w.heap.size w W0) := Lib.hid (by
      rw [hW0]
      repeat (first | exact Below.refl _ _ | refine Below.setCell ?_ (by first | (simp; done) | omega | (simp; omega)) _ | refine Below.alloc ?_ (by first | (simp; done) | omega | (simp; omega)) _ | refine bel_drew ?_)
      )
    have R0 : W0.heap[w.heap.size + 1]? = some rz := by
      rw [hW0]
      have e := World.alloc_heap_new (w.alloc (Obj.cells #[Value.int IntKind.i64 (C : Int), Value.int IntKind.i64 (R : Int), Value.slice (some ⟨g, 0, none⟩) zs.length cap] 29)) rz
      rw [World.size_alloc] at e
      exact e
    have M0 : Hid (MAt W0 w.heap.size (C : Int) (R : Int) (.slice (some ⟨g, 0, none⟩) zs.length cap)) := Lib.hid (by
      rw [hW0]
      exact (MAt.new w (C : Int) (R : Int) _ _).below ((Below.refl _ _).alloc (Nat.le_refl _) _))
    clear hW0
    refine (OK.out _ (H1.out.below HB0.out)).mono ?_
    rintro e w1 ⟨rfl, hb1⟩
    have hs1 : w.heap.size + 2 ≤ w1.heap.size := by have := hb1.size; omega
    have HB1 := Lib.hid (HB0.out.trans (hb1.mono HB0.out.size))
    have M1 := Lib.hid (M0.out.below hb1)
    have RH : Hid (w1.heap[w.heap.size + 1]? = some rz) := Lib.hid ((hb1.block _ (by omega)).trans R0)
    obtain ⟨m0, m1, m2⟩ := M1.out
    have hrz := RH.out
    have r0 : w1.cell? ⟨w.heap.size + 1, 0, none⟩ = some (.int .i64 0) := by simp [World.cell?, hrz]
    have r1 : w1.cell? ⟨w.heap.size + 1, 1, none⟩ = some (.int .i64 0) := by simp [World.cell?, hrz]
    have r2 : w1.cell? ⟨w.heap.size + 1, 2, none⟩ = some (.slice none 0 0) := by simp [World.cell?, hrz]
    have f0 : w1.frozen? ⟨w.heap.size + 1, 0, none⟩ = false := by simp [World.frozen?, hrz]
    have f1 : w1.frozen? ⟨w.heap.size + 1, 1, none⟩ = false := by simp [World.frozen?, hrz]
    have f2 : w1.frozen? ⟨w.heap.size + 1, 2, none⟩ = false := by simp [World.frozen?, hrz]
    clear hb1 hrz R0 M0
    clear OK
    go_wp2_with fail
    refine (MO.out _ M1.out (H1.out.below HB1.out)).mono ?_
    rintro e w2 ⟨u, rfl, ho, hnu, hb2⟩
    obtain ⟨a, cap2, rfl⟩ := ho.len
    have O1 := Lib.hid ho
    have hs2 := hb2.size
    clear ho hnu m0 m1 m2 r0 r1 r2 f0 f1 f2
    have hrz := (hb2.block _ (show w.heap.size + 1 < w1.heap.size by omega)).trans RH.out
    have r0 : w2.cell? ⟨w.heap.size + 1, 0, none⟩ = some (.int .i64 0) := by simp [World.cell?, hrz]
    have r1 : w2.cell? ⟨w.heap.size + 1, 1, none⟩ = some (.int .i64 0) := by simp [World.cell?, hrz]
    have r2 : w2.cell? ⟨w.heap.size + 1, 2, none⟩ = some (.slice none 0 0) := by simp [World.cell?, hrz]
    have f0 : w2.frozen? ⟨w.heap.size + 1, 0, none⟩ = false := by simp [World.frozen?, hrz]
    have f1 : w2.frozen? ⟨w.heap.size + 1, 1, none⟩ = false := by simp [World.frozen?, hrz]
    have f2 : w2.frozen? ⟨w.heap.size + 1, 2, none⟩ = false := by simp [World.frozen?, hrz]
    have HB2 := Lib.hid (HB1.out.trans (hb2.mono HB1.out.size))
    clear hb2 hrz MO
    go_wp2_with fail
    refine bodyPost_ret (v := .tuple #[.agg #[.int .i64 (C : Int), .int .i64 (R : Int), .slice a L.length cap2], .int .i64 0]) (by simp [results, Try.results37, go_sem, r0, r1, r2]) rfl ⟨_, rfl, ?_, ?_⟩
    · refine Sp.Own.le (Sp.Own.mod O1.out (B' := 0) (C' := w.heap.size + 2) ?_ (Or.inr (by omega))) (by omega) (by simp)
      repeat (first | exact Mod.refl _ _ _ | refine Mod.setCell ?_ (by omega) (by omega) _)
    ·
      repeat (first | exact Below.refl _ _ | exact HB2.out | refine Below.setCell ?_ (by first | (simp; done) | omega | (simp; omega)) _ | refine Below.alloc ?_ (by first | (simp; done) | omega | (simp; omega)) _ | refine bel_drew ?_)
theorem mirrorR_len (c r : Int) (zs : List V) : (mirrorR c r zs).1.2.2.length ≤ 1048576 := by
  unfold mirrorR
  split
  · rename_i h
    obtain ⟨C, R, rfl, rfl, hC, hR, hlen, h81, hall⟩ := meshB_parts h
    show (mirL zs C R).length ≤ _
    rw [mirL_len, Nat.mul_comm]
    omega
  · exact Nat.zero_le _
end Go.Proofs.Ytbbkohpmncfilaa.Me
