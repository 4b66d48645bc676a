/-
  The plain mesh (packages spec and impl).
-/
import Derived.Test.YtbbkohpmncfilaaGro
import Derived.Test.YtbbkohpmncfilaaKeep
import Derived.IntWalk
import Derived.Deep.RegionLaw
import Derived.Deep.AppendLies
namespace Go.Proofs.Ytbbkohpmncfilaa.Me
open Go.RowKit
open Sp (V Row)
set_option linter.unusedVariables false

theorem quiet_wM {P : Program} {f : FuncId} {args : Array Value} {w : World} {v : Value}
    (h : Calls P f args w fun e w' => e = .returned v ∧ w = w') : Calls P f args w fun e w' => e = .returned v ∧ w' = w :=
  h.mono fun _ _ ⟨he, hm⟩ => ⟨he, hm.symm⟩
def plainL (C R : Nat) : List V := (gridL C (R * C)).map (ptV (plainPt C R))
theorem plainL_len (C R : Nat) : (plainL C R).length = R * C := by unfold plainL; rw [List.length_map, gridL_len]
set_option maxRecDepth 100000 in
set_option maxHeartbeats 1000000 in
theorem l11Plain_any (C R : Nat) (hC : 2 ≤ C ∧ C ≤ 9) (hR : 2 ≤ R ∧ R ≤ 9) (w : World) :
    Calls Try.prog 64 #[.int .i64 (C : Int), .int .i64 (R : Int)] w fun e w' => ∃ u, e = .returned (.agg #[.int .i64 (C : Int), .int .i64 (R : Int), u]) ∧ Sp.Own w' w.heap.size w'.heap.size u (plainL C R) ∧ Below w.heap.size w w' := by
  obtain ⟨i0, hi, hzz⟩ := Option.map_eq_some_iff.1 Sp.info_rec
  simp only [Prod.mk.injEq] at hzz
  obtain ⟨hz0, hz1, hz2⟩ := hzz
  have HI0 := Lib.hid hi
  have HZ0 := Lib.hid hz0
  have HZ1 := Lib.hid hz1
  have HZ2 := Lib.hid hz2
  clear hi hz0 hz1 hz2
  go_enter Try.func64, Try.ntmps64
  go_wp2_with fail
  obtain ⟨W0, hW0⟩ : ∃ W, W = (w.alloc (Obj.cells #[Value.int IntKind.i64 0, Value.int IntKind.i64 0, Value.slice none 0 0] 29)).alloc (Obj.cells #[Value.int IntKind.i64 (C : Int), Value.int IntKind.i64 (R : Int), Value.slice none 0 0] 29) := ⟨_, rfl⟩
  rw [← hW0]
  have hS0 : W0.heap.size = w.heap.size + 2 := by rw [hW0]; simp
  have hB0 : Below w.heap.size w W0 := by
    rw [hW0]
    repeat (first | exact Below.refl _ _ | refine Below.setCell ?_ (by first | (simp; done) | omega | (simp; omega)) _ | refine Below.alloc ?_ (by first | (simp; done) | omega | (simp; omega)) _ | refine bel_drew ?_)
  have R0 : W0.heap[w.heap.size]? = some rz := by
    rw [hW0, Below.heap_alloc _ _ _ (by simp)]
    exact World.alloc_heap_new w _
  have G0 : Hid (GM W0 (w.heap.size + 1) (w.heap.size + 2) (C : Int) (R : Int) ((gridL C (0 * C)).map (ptV (plainPt C R)))) := Lib.hid (by
    rw [Nat.zero_mul]
    refine GM.start ?_
    rw [hW0]
    have := World.alloc_heap_new (w.alloc (Obj.cells #[Value.int IntKind.i64 0, Value.int IntKind.i64 0, Value.slice none 0 0] 29)) (.cells #[.int .i64 (C : Int), .int .i64 (R : Int), .slice none 0 0] 29)
    simpa using this)
  have RH := Lib.hid R0
  have HB0 := Lib.hid hB0
  clear hW0 R0 hB0
  go_loopg [6] (R + 1) (fun kx s6 wr => ∃ row : Nat, s6 = .int .i64 (row : Int) ∧ row ≤ R ∧ kx = R + 1 - row ∧ Hid (GM wr (w.heap.size + 1) (w.heap.size + 2) (C : Int) (R : Int) ((gridL C (row * C)).map (ptV (plainPt C R)))) ∧ Hid (Kn (w.heap.size + 1) (w.heap.size + 2) W0 wr))
  case atStart => exact ⟨0, rfl, Nat.zero_le _, rfl, G0, Lib.hid (Kn.refl _ _ _)⟩
  case round =>
    clear G0
    obtain ⟨row, rfl, hrow, rfl, HG, HK⟩ := hrel
    by_cases hlt : row < R
    · go_wp2_with fail
      go_loopg [7] (C + 1) (fun kx s7 wr => ∃ col : Nat, s7 = .int .i64 (col : Int) ∧ col ≤ C ∧ kx = C + 1 - col ∧ Hid (GM wr (w.heap.size + 1) (w.heap.size + 2) (C : Int) (R : Int) ((gridL C (row * C + col)).map (ptV (plainPt C R)))) ∧ Hid (Kn (w.heap.size + 1) (w.heap.size + 2) W0 wr))
      case atStart => exact ⟨0, rfl, Nat.zero_le _, rfl, HG, HK⟩
      case round =>
        clear HG HK
        obtain ⟨col, rfl, hcol, rfl, HG, HK⟩ := hrel
        by_cases hlt2 : col < C
        · have b1 := plC_bd (col : Int) (C : Int) (by omega) (by omega) (by omega) (by omega)
          have b2 := plC_bd (row : Int) (R : Int) (by omega) (by omega) (by omega) (by omega)
          have D1 := Lib.hid (fun w => l01Div_any (2000000 * (col : Int)) ((C : Int) - 1) w (by omega) (by omega) (by omega) (by omega) (by omega))
          have D2 := Lib.hid (fun w => l01Div_any (2000000 * (row : Int)) ((R : Int) - 1) w (by omega) (by omega) (by omega) (by omega) (by omega))
          have NX : Hid ((gridL C (row * C + (col + 1))).map (ptV (plainPt C R)) = (gridL C (row * C + col)).map (ptV (plainPt C R)) ++ [⟨nearQ (2000000 * (col : Int)) ((C : Int) - 1) - 1000000, nearQ (2000000 * (row : Int)) ((R : Int) - 1) - 1000000⟩]) := Lib.hid (by
            rw [← Nat.add_assoc, gridL_next C row col hlt2, List.map_append]
            rfl)
          have wx1 : IntKind.i64.wrap (2000000 * (col : Int)) = 2000000 * (col : Int) := IntWalk.i64_in _ (by omega)
          have wx2 : IntKind.i64.wrap ((C : Int) - 1) = (C : Int) - 1 := IntWalk.i64_in _ (by omega)
          have wy1 : IntKind.i64.wrap (2000000 * (row : Int)) = 2000000 * (row : Int) := IntWalk.i64_in _ (by omega)
          have wy2 : IntKind.i64.wrap ((R : Int) - 1) = (R : Int) - 1 := IntWalk.i64_in _ (by omega)
          generalize nearQ (2000000 * (col : Int)) ((C : Int) - 1) = qx at *
          generalize nearQ (2000000 * (row : Int)) ((R : Int) - 1) = qy at *
          have hln : ((gridL C (row * C + col)).map (ptV (plainPt C R))).length ≤ 81 := by
            rw [List.length_map, gridL_len]
            have := place_bd hlt2 hlt
            have := Nat.mul_le_mul hC.2 hR.2
            omega
          generalize (gridL C (row * C + col)).map (ptV (plainPt C R)) = L at *
          have wx3 : IntKind.i64.wrap (qx - 1000000) = qx - 1000000 := IntWalk.i64_in _ (by omega)
          have wy3 : IntKind.i64.wrap (qy - 1000000) = qy - 1000000 := IntWalk.i64_in _ (by omega)
          have hsz : w.heap.size + 2 ≤ wr.heap.size := by have := HK.out.size; omega
          go_wp2_with fail
          obtain ⟨a, cap, k0, k1, k2, kf, ho, hv⟩ := HG.out.cells
          have hBl : w.heap.size + 1 < wr.heap.size := by omega
          have hi := HI0.out
          have hz0 := HZ0.out
          have hz1 := HZ1.out
          have hz2 := HZ2.out
          have hnl : L.length + 1 ≤ maxLen := by unfold maxLen; omega
          have hny : (L.length + 1) * 16 ≤ 140737488355328 := by omega
          have ST := Lib.hid (fun (w4 : World) (v' : Value) (o : Obj) hg h4 => GM.step (W3 := wr.drew) (w4 := w4) (v' := v') (o := o) (x := ⟨qx - 1000000, qy - 1000000⟩) hv ho (by omega) hsz (drewG wr) hg h4)
          go_region_law (first
            | (refine step_append_lies _ (by rfl) _ _ _ (by rfl) (w.heap.size + 2) 39 i0 (.agg #[.int .i64 0, .int .i64 0]) 2 16 Try.underlying27 hi hz0 hz1 hz2 rfl (by decide) _ L.length (Sp.flat L) (by rfl) (World.ownsRow.alloc (w := wr.drew) ho _) ⟨wr.heap.size, 0, none⟩ 1 1 [.int .i64 (qx - 1000000), .int .i64 (qy - 1000000)] (by rfl) (by rfl) (Sp.new_cells wr.drew _ _ _) (Sp.cells_one _ _) (by omega) hnl hny (by simp; omega) _ rfl ?_; intro g4 c4 w4 hown4 hgrow4 _ _; have S4 := ST.out w4 _ _ hgrow4 hown4; obtain ⟨⟨hc4, hf4⟩, hG4, hK4⟩ := S4)
            | (go_simp; go_at_call 83; (with_reducible refine (D1.out _).mono ?_); rintro e w' ⟨rfl, rfl⟩)
            | (go_simp; go_at_call 83; (with_reducible refine (D2.out _).mono ?_); rintro e w' ⟨rfl, rfl⟩))
          all_goals
            have HG4 := Lib.hid hG4
            have HK4 := Lib.hid (HK.out.trans hK4)
            clear hG4 hK4 ST hc4 hf4 k0 k1 k2 kf ho hv hgrow4 hown4
            go_wp2_with fail
            go_roundg (C + 1 - (col + 1))
            case measure => omega
            case rel => exact ⟨col + 1, by go_num, by omega, rfl, by rw [NX.out]; exact HG4, HK4⟩
        · obtain rfl : col = C := by omega
          go_wp2_with fail
          go_roundg (R + 1 - (row + 1))
          case measure => omega
          case rel => exact ⟨row + 1, by go_num, by omega, rfl, by rw [Nat.add_mul, Nat.one_mul]; exact HG, HK⟩
    · obtain rfl : row = R := by omega
      obtain ⟨a, cap, k0, k1, k2, kf, ho, hv⟩ := HG.out.cells
      have HB := Lib.hid (HB0.out.trans (HK.out.below (by omega) (by omega)))
      have hrz : wr.heap[w.heap.size]? = some rz := (HK.out.block _ (by omega) (by omega)).trans RH.out
      have r0 : wr.cell? ⟨w.heap.size, 0, none⟩ = some (.int .i64 0) := by simp [World.cell?, hrz]
      have r1 : wr.cell? ⟨w.heap.size, 1, none⟩ = some (.int .i64 0) := by simp [World.cell?, hrz]
      have r2 : wr.cell? ⟨w.heap.size, 2, none⟩ = some (.slice none 0 0) := by simp [World.cell?, hrz]
      have f0 : wr.frozen? ⟨w.heap.size, 0, none⟩ = false := by simp [World.frozen?, hrz]
      have f1 : wr.frozen? ⟨w.heap.size, 1, none⟩ = false := by simp [World.frozen?, hrz]
      have f2 : wr.frozen? ⟨w.heap.size, 2, none⟩ = false := by simp [World.frozen?, hrz]
      have hml : ((gridL C (row * C)).map (ptV (plainPt C row))).length = row * C := by rw [List.length_map, gridL_len]
      rw [hml] at k2
      have O1 := Lib.hid (Sp.Own.mk ho)
      rw [hml] at O1
      clear ho hv HG HK kf hrz
      go_wp2_with fail
      refine bodyPost_ret (v := .agg #[.int .i64 (C : Int), .int .i64 (row : Int), .slice a (row * C) cap]) (by simp [results, Try.results64, go_sem, r0, r1, r2]) rfl ⟨_, rfl, ?_, ?_⟩
      · refine Sp.Own.le (Sp.Own.mod O1.out (B' := 0) (C' := w.heap.size + 1) ?_ (Or.inr (by omega))) (by omega) (by simp)
        repeat (first | exact Mod.refl _ _ _ | refine Mod.setCell ?_ (by omega) (by omega) _)
      ·
        repeat (first | exact Below.refl _ _ | exact HB.out | refine Below.setCell ?_ (by first | (simp; done) | omega | (simp; omega)) _ | refine Below.alloc ?_ (by first | (simp; done) | omega | (simp; omega)) _ | refine bel_drew ?_)
end Go.Proofs.Ytbbkohpmncfilaa.Me
