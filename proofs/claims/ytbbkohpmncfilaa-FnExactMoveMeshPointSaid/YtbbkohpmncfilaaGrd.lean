/-
  A grid's places, given row by row (gridPlaces), and the mesh with a function's points (meshOf).
-/
import Derived.Test.YtbbkohpmncfilaaMe0
import Derived.Test.YtbbkohpmncfilaaRgIn
import Derived.RangeFuncNested
import Derived.RangeFuncBound
import Derived.RangeFuncCalls
import Derived.RangeFuncLeaves
import Derived.RangeFuncBox
import Derived.Shelf.Abstract
import Derived.Shelf.RegionOpen
import Derived.WalkKit
import Derived.OwnWalkIn
import Derived.TacticsInMore
import Derived.LoopNIn
import Derived.LoopIn
import Derived.Maps.AppendAt
import Derived.Shelf.AbstractIn
namespace Go.Proofs.Ytbbkohpmncfilaa.Me
open Go.RowKit Go.Shelf
open Sp (V Row)
set_option linter.unusedVariables false
attribute [local go_sem] Oper.semAt_some

/-- A place of a grid. -/
abbrev Pl (C R : Nat) := { x : Nat × Nat // x.1 < C ∧ x.2 < R }
def encs {C R : Nat} (x : Pl C R) : Array Value := #[.int .i64 (x.1.1 : Int), .int .i64 (x.1.2 : Int)]
/-- The first k places. -/
def gridL (C : Nat) (k : Nat) : List (Nat × Nat) := (List.range k).map (fun j => (j % C, j / C))
theorem gridL_len (C k : Nat) : (gridL C k).length = k := by simp [gridL]
theorem gridL_next (C row col : Nat) (h : col < C) : gridL C (row * C + col + 1) = gridL C (row * C + col) ++ [(col, row)] := by
  unfold gridL
  rw [List.range_succ, List.map_append, List.map_cons, List.map_nil]
  have e1 : (row * C + col) % C = col := by rw [Nat.add_comm, Nat.add_mul_mod_self_right, Nat.mod_eq_of_lt h]
  have e2 : (row * C + col) / C = row := by rw [Nat.add_comm, Nat.add_mul_div_right _ _ (by omega), Nat.div_eq_of_lt h, Nat.zero_add]
  rw [e1, e2]
/-- A block stays. -/
def KeptB (b : Nat) (W W' : World) : Prop := W'.heap[b]? = W.heap[b]?
theorem keptB_t {b : Nat} {A B C : World} (h : KeptB b A B) (k : KeptB b B C) : KeptB b A C := k.trans h
theorem keptB_b {b : Nat} {w : World} (hb : b < w.heap.size) (W : World) (l : Nat) (o o' : Obj) (hl : w.heap.size ≤ l) (h : W.heap[l]? = some o) (_ : o.isCells = false) (_ : o.isWalk = false) : KeptB b W (W.putObj l o') :=
  World.putObj_heap_other (by omega)
theorem place_bd {C R row col : Nat} (hc : col < C) (hr : row < R) : row * C + col < C * R := by
  have : (row + 1) * C ≤ R * C := Nat.mul_le_mul_right C hr
  rw [Nat.add_mul, Nat.one_mul] at this
  rw [Nat.mul_comm C R]
  omega

set_option maxRecDepth 100000 in
set_option maxHeartbeats 2000000 in
theorem grid_stops (F : Fence) (n : Nat) (hF : F.fn 109) (hro : F.round = none) (hn : 1 ≤ n) (C R : Nat) (hC : C ≤ 1000) (hR : R ≤ 1000) (b1 b2 : Nat) (w : World)
    (h1 : w.cell? ⟨b1, 0, none⟩ = some (.int .i64 (R : Int))) (h2 : w.cell? ⟨b2, 0, none⟩ = some (.int .i64 (C : Int))) :
    SeqStopsK F n Try.prog 109 #[.pointer (some ⟨b1, 0, none⟩), .pointer (some ⟨b2, 0, none⟩)] (encs (C := C) (R := R)) (KeptB b2) (fun xs => xs.map (·.1) = gridL C (R * C)) (fun _ => True) (C * R) w := fun l J Jx W hW _ _ hY h0 => by
  have c1 := (hW.cell (p := ⟨b1, 0, none⟩) (World.block_lt_of_cell? w ⟨b1, 0, none⟩ h1)).trans h1
  have hB2 := Lib.hid ((hW.cell (p := ⟨b2, 0, none⟩) (World.block_lt_of_cell? w ⟨b2, 0, none⟩ h2)).trans h2)
  refine callsIn_of_wp Try.func109 rfl hF ?_ hro
  simp only [Try.ntmps109, List.size_toArray, List.length_cons, List.length_nil, Nat.reduceAdd, Nat.reduceSub, Array.replicate_succ, Array.replicate_zero, List.push_toArray, List.append_toArray, List.nil_append, List.cons_append]
  gi_wp2
  gi_loopw [7] (fun s7 wr => ∃ row : Nat, row ≤ R ∧ s7 = .int .i64 (row : Int) ∧ ∃ pre : List (Pl C R), pre.map (·.1) = gridL C (row * C) ∧ J pre wr ∧ KeptB b2 W wr)
    (fun s7 _ => R - (intOf s7).toNat)
  case atStart => exact ⟨0, Nat.zero_le _, rfl, [], by simp [gridL], h0, rfl⟩
  case round =>
    obtain ⟨row, hrow, rfl, pre, hpre, hJ, hK⟩ := hrel
    by_cases hlt : row < R
    · have c2 : wr.cell? ⟨b2, 0, none⟩ = some (.int .i64 (C : Int)) := (World.cell?_of_block (a := ⟨b2, 0, none⟩) hK).trans hB2.out
      gi_wp2
      gi_loopw [11] (fun s11 wr => ∃ col : Nat, col ≤ C ∧ s11 = .int .i64 (col : Int) ∧ ∃ pre : List (Pl C R), pre.map (·.1) = gridL C (row * C + col) ∧ J pre wr ∧ KeptB b2 W wr)
        (fun s11 _ => C - (intOf s11).toNat)
      case atStart => exact ⟨0, Nat.zero_le _, rfl, pre, hpre, hJ, hK⟩
      case round =>
        clear hJ hK hpre c2
        obtain ⟨col, hcol, rfl, pre, hpre, hJ, hK⟩ := hrel
        by_cases hlt2 : col < C
        · have hlen : pre.length < C * R := by
            have e : pre.length = row * C + col := by rw [← List.length_map (f := (·.1)), hpre, gridL_len]
            rw [e]
            exact place_bd hlt2 hlt
          obtain ⟨fn, tmps, assign, body, hy, hR⟩ := hY pre ⟨(col, row), hlt2, hlt⟩ wr hJ hlen
          dsimp only [encs] at hy
          have hnx : (pre ++ [(⟨(col, row), hlt2, hlt⟩ : Pl C R)]).map (fun x => x.1) = gridL C (row * C + (col + 1)) := by
            rw [List.map_append, hpre, ← Nat.add_assoc, gridL_next C row col hlt2]
            rfl
          gi_wp2
          refine hR.mono ?_
          rintro e W3 (⟨rfl, hJ3, hk3⟩ | ⟨rfl, hJx3⟩)
          · gi_wp2
            go_roundw
            case rel => exact ⟨col + 1, by omega, by go_num, _, hnx, hJ3, keptB_t hK hk3⟩
            case measure => simp [intOf]; omega
          · gi_wp2
            refine bodyPost_ret (results_none rfl _ _ _) rfl ?_
            exact ⟨⟨_, rfl⟩, .inr ⟨_, trivial, hJx3⟩⟩
        · obtain rfl : col = C := by omega
          gi_wp2
          go_roundw
          case rel => exact ⟨row + 1, by omega, by go_num, pre, by rw [hpre, Nat.add_mul, Nat.one_mul], hJ, hK⟩
          case measure => simp [intOf]; omega
    · obtain rfl : row = R := by omega
      gi_wp2
      go_end0
      exact ⟨⟨_, rfl⟩, .inl ⟨_, hpre, hJ⟩⟩

set_option maxHeartbeats 1000000 in
/-- gridPlaces: both numbers are boxed, the function value has the boxes. -/
theorem gridPlaces_in (F : Fence) (n : Nat) (h5 : F.fn 74) (hro : F.round = none) (C R : Int) (w : World) :
    CallsIn F n Try.prog 74 #[.int .i64 C, .int .i64 R] w fun e w' => e = .returned (.func (.func 109) #[] #[.pointer (some ⟨w.heap.size + 1, 0, none⟩), .pointer (some ⟨w.heap.size, 0, none⟩)]) ∧ w' = (w.alloc (.cells #[.int .i64 C] 2)).alloc (.cells #[.int .i64 R] 2) := by
  refine callsIn_of_wp Try.func74 rfl h5 ?_ hro
  simp only [Try.ntmps74, List.size_toArray, List.length_cons, List.length_nil, Nat.reduceAdd, Nat.reduceSub, Array.replicate_succ, Array.replicate_zero, List.push_toArray, List.append_toArray, List.nil_append, List.cons_append]
  gi_wp2
  go_ret
  exact ⟨rfl, rfl⟩

/-- The point of a place. -/
def ptV (pt : Nat → Nat → Int × Int) (x : Nat × Nat) : V := ⟨(pt x.1 x.2).1, (pt x.1 x.2).2⟩
/-- The result's block, before it is written. -/
abbrev rz : Obj := .cells #[.int .i64 0, .int .i64 0, .slice none 0 0] 29 (0, 0)
/-- While the points are gathered: the function's box, the mesh's own block, its row. -/
def IM (w0 : World) (b0 b1 B n0 : Nat) (fv : Value) (c r : Int) (zs : List V) (W : World) : Prop :=
  n0 ≤ W.heap.size ∧ W.cell? ⟨b0, 0, none⟩ = some fv ∧ W.heap[b1]? = some rz ∧ (∃ v, W.heap[B]? = some (.cells #[.int .i64 c, .int .i64 r, v] 29 (0, 0)) ∧ W.ownsRow n0 39 2 v zs.length (Sp.flat zs)) ∧ Below w0.heap.size w0 W
theorem IM.own {α : Type} (f : α → V) (w0 : World) (b0 b1 B n0 : Nat) (fv : Value) (c r : Int) (D : Nat) (hD : w0.heap.size ≤ D) : OwnFrom D (fun pre W => IM w0 b0 b1 B n0 fv c r (List.map f pre) W) := by
  rintro s X Y row ⟨hs, hf, hz, ⟨v, hv, ho⟩, hb⟩ hg hr
  refine ⟨Nat.le_trans hs hg.size, cell_kept hf hg (fun q e => (hr q e).2), ?_, ⟨v, ?_, ho.kept hg ?_⟩, ?_⟩
  · refine (hg.block b1 (Array.getElem?_eq_some_iff.1 hz).1 (fun e => ?_)).trans hz
    obtain ⟨o, h1, h2⟩ := (hr b1 e.symm).2
    rw [hz] at h1; cases h1; cases h2
  · refine (hg.block B (Array.getElem?_eq_some_iff.1 hv).1 (fun e => ?_)).trans hv
    obtain ⟨o, h1, h2⟩ := (hr B e.symm).2
    rw [hv] at h1; cases h1; cases h2
  · rcases ho.2 with ⟨rfl, _⟩ | ⟨g, cap, cur, rfl, _, hgb, _⟩
    · exact .inl rfl
    · refine .inr fun e' => ?_
      obtain ⟨o, h1, h2⟩ := (hr g (by simpa [Value.ownBlock] using e'.symm)).2
      rw [hgb] at h1; cases h1; cases h2
  · exact hb.grown hg hb.size (fun k e => by have := (hr k e).1; omega)
theorem ownBlock_bd {w : World} {B T sz : Nat} {v : Value} {n : Nat} {xs : List Value} (h : w.ownsRow B T sz v n xs) : ∀ k, v.ownBlock = some k → B ≤ k := fun k hk => (h.lt k hk).1
/-- Behind one more point. -/
theorem IM.step {w0 W W3 w4 : World} {b0 b1 B n0 b2 : Nat} {fv v v' : Value} {c r : Int} {zs : List V} {x : V} {o : Obj} (hf : W.cell? ⟨b0, 0, none⟩ = some fv) (hr : W.heap[b1]? = some rz) (hv : W.heap[B]? = some (.cells #[.int .i64 c, .int .i64 r, v] 29 (0, 0))) (ho : W.ownsRow n0 39 2 v zs.length (Sp.flat zs)) (hb : Below w0.heap.size w0 W)
    (hw : w0.heap.size ≤ B) (hBn : B < n0) (hb0 : b0 < n0) (hb1 : b1 < n0) (hne1 : b1 ≠ B) (hb2 : b2 < n0) (hne0 : b0 ≠ B) (hne2 : b2 ≠ B) (hs : n0 ≤ W.heap.size)
    (h3 : Below W.heap.size W W3) (hg : (W3.alloc o).grownBy w4 v.ownBlock) (h4 : w4.ownsRow n0 39 2 v' (zs.length + 1) (Sp.flat zs ++ x.cells)) :
    (w4.cell? ⟨B, 2, none⟩ = some v ∧ w4.frozen? ⟨B, 2, none⟩ = false) ∧ IM w0 b0 b1 B n0 fv c r (zs ++ [x]) (w4.setCell ⟨B, 2, none⟩ v') ∧ KeptB b2 W (w4.setCell ⟨B, 2, none⟩ v') ∧ KeepsFrom n0 W (w4.setCell ⟨B, 2, none⟩ v') := by
  have hrow : ∀ k, v.ownBlock = some k → n0 ≤ k := ownBlock_bd ho
  have h3a : Below W.heap.size W (W3.alloc o) := h3.alloc h3.size o
  have blk : ∀ k, k < n0 → w4.heap[k]? = W.heap[k]? := fun k hk => (hg.block k (by have := h3a.size; omega) (fun e => by have := hrow k e.symm; omega)).trans (h3a.block k (by omega))
  have hset : ∀ k, k ≠ B → (w4.setCell ⟨B, 2, none⟩ v').heap[k]? = w4.heap[k]? := fun k hk => heap_setCell_other _ _ _ _ hk
  have hB4 : w4.heap[B]? = some (.cells #[.int .i64 c, .int .i64 r, v] 29 (0, 0)) := (blk B hBn).trans hv
  have hs4 : W.heap.size ≤ w4.heap.size := Nat.le_trans h3a.size hg.size
  have hb4 : Below n0 W w4 := ⟨hg.os.trans h3a.os, hg.tape.trans h3a.tape, hg.output.trans h3a.output, hs4, blk⟩
  have hb5 : Below w0.heap.size w0 (w4.setCell ⟨B, 2, none⟩ v') := (hb.trans (hb4.mono (by omega))).setCell hw v'
  refine ⟨⟨?_, ?_⟩, ⟨Nat.le_trans (Nat.le_trans hs hs4) (((Below.refl 0 w4).setCell (p := ⟨B, 2, none⟩) (Nat.zero_le _) v').size), ?_, ?_, ⟨v', ?_, ?_⟩, hb5⟩, ?_, ?_⟩
  · simp [World.cell?, hB4]
  · simp [World.frozen?, hB4]
  · exact (World.cell?_of_block (a := ⟨b0, 0, none⟩) ((hset b0 hne0).trans (blk b0 hb0))).trans hf
  · exact ((hset b1 hne1).trans (blk b1 hb1)).trans hr
  · obtain ⟨hlt, hk⟩ := Array.getElem?_eq_some_iff.1 hB4
    show (w4.heap.modify B _)[B]? = _
    rw [Array.getElem?_eq_getElem (by rw [Array.size_modify]; exact hlt), Array.getElem_modify_self, hk]
    rfl
  · have h5 := Sp.Own.app (zs := zs) (x := x) h4
    rcases h5.2 with ⟨rfl, hn⟩ | ⟨g, cap, cur, rfl, hg1, hg2, hrest⟩
    · exact ⟨h5.1, .inl ⟨rfl, hn⟩⟩
    · exact ⟨h5.1, .inr ⟨g, cap, cur, rfl, hg1, (hset g (by omega)).trans hg2, hrest⟩⟩
  · exact (hset b2 hne2).trans (blk b2 hb2)
  · refine ⟨Nat.le_trans hs4 (((Below.refl 0 w4).setCell (p := ⟨B, 2, none⟩) (Nat.zero_le _) v').size), fun k ob hk hok hc => ?_⟩
    refine (hset k (by omega)).trans ?_
    have hkl := (Array.getElem?_eq_some_iff.1 hok).1
    refine (hg.block k (by have := h3a.size; omega) (fun e => ?_)).trans ((h3a.block k hkl).trans hok)
    rcases ho.2 with ⟨rfl, _⟩ | ⟨g, cap, cur, rfl, _, hgb, _⟩
    · cases e
    · have : g = k := by simpa [Value.ownBlock] using e.symm
      subst this
      rw [hgb] at hok; cases hok; cases hc
theorem keepsFrom_mono {B B' : Nat} {W W' : World} (h : KeepsFrom B W W') (hB : B ≤ B') : KeepsFrom B' W W' := ⟨h.size, fun k o hk => h.same k o (Nat.le_trans hB hk)⟩
theorem round_app {w0 W : World} {b0 b1 B n0 b2 : Nat} {fv v : Value} {c r : Int} {zs : List V} {i0 : TypeInfo} (hi : Try.prog.info? 39 = some i0) (hz0 : i0.zero = some (.agg #[.int .i64 0, .int .i64 0])) (hz1 : i0.size = 2) (hz2 : i0.bytes = 16)
    (hf : W.cell? ⟨b0, 0, none⟩ = some fv) (hr : W.heap[b1]? = some rz) (hv : W.heap[B]? = some (.cells #[.int .i64 c, .int .i64 r, v] 29 (0, 0))) (ho : W.ownsRow n0 39 2 v zs.length (Sp.flat zs)) (hb : Below w0.heap.size w0 W)
    (hw : w0.heap.size ≤ B) (hBn : B < n0) (hb0 : b0 < n0) (hb1 : b1 < n0) (hne1 : b1 ≠ B) (hb2 : b2 < n0) (hne0 : b0 ≠ B) (hne2 : b2 ≠ B) (hs : n0 ≤ W.heap.size) (hz : zs.length ≤ 100) (px py : Int) (W3 : World) (h3 : Below W.heap.size W W3) :
    ∃ v' w4, (Builtin.append_ #[27, 27] 27 #[v, .slice (some ⟨W3.heap.size, 0, none⟩) 1 1]).run Try.prog (W3.alloc (.cells #[.int .i64 px, .int .i64 py] 39)) = .ok v' w4 ∧
      (w4.cell? ⟨B, 2, none⟩ = some v ∧ w4.frozen? ⟨B, 2, none⟩ = false) ∧ IM w0 b0 b1 B n0 fv c r (zs ++ [⟨px, py⟩]) (w4.setCell ⟨B, 2, none⟩ v') ∧ KeptB b2 W (w4.setCell ⟨B, 2, none⟩ v') ∧ KeepsFrom n0 W (w4.setCell ⟨B, 2, none⟩ v') ∧ ∃ g cap, v' = .slice (some ⟨g, 0, none⟩) (zs.length + 1) cap := by
  have ho3 : W3.ownsRow n0 39 2 v zs.length (Sp.flat zs) := World.ownsRow.kept ho (⟨h3.os, h3.tape, h3.output, h3.size, fun k hk _ => h3.block k hk⟩ : W.grownBy W3 none) (by cases hv : v.ownBlock <;> simp)
  obtain ⟨v', w4, hrun, h4, hg, hn⟩ := run_append_own (P := Try.prog) (W3.alloc (.cells #[.int .i64 px, .int .i64 py] 39)) n0 27 27 39 i0 (.agg #[.int .i64 0, .int .i64 0]) 2 16 Try.underlying27 hi hz0 hz1 hz2 rfl (by decide) v _ _ (ho3.alloc _) ⟨W3.heap.size, 0, none⟩ 1 1 [.int .i64 px, .int .i64 py] rfl (Sp.new_cells _ _ _ _) (Sp.cells_one _ _) (by unfold maxLen; omega) (by omega) (by have := h3.size; simp; omega)
  obtain ⟨s1, s2, s3, s4⟩ := IM.step (x := ⟨px, py⟩) hf hr hv ho hb hw hBn hb0 hb1 hne1 hb2 hne0 hne2 hs h3 hg h4
  exact ⟨v', w4, hrun, s1, s2, s3, s4, ownsRow_succ h4⟩
set_option maxRecDepth 100000 in
set_option maxHeartbeats 4000000 in
theorem meshOf_any (G : Nat) (cb : Array Value) (eg : ∀ args w, (callFunc G args).run Try.prog w = .ok (.enter G args) w) (pt : Nat → Nat → Int × Int) (C R : Nat) (hC : 1 ≤ C ∧ C ≤ 9) (hR : 1 ≤ R ∧ R ≤ 9) (w : World)
    (hf : ∀ (W : World) (x y : Nat), x < C → y < R → Below w.heap.size w W → Calls Try.prog G (#[.int .i64 (x : Int), .int .i64 (y : Int)] ++ cb) W fun e w' => e = .returned (.agg #[.int .i64 (pt x y).1, .int .i64 (pt x y).2]) ∧ Below W.heap.size W w') :
    Calls Try.prog 65 #[.int .i64 (C : Int), .int .i64 (R : Int), .func (.func G) #[] cb] w fun e w' => ∃ u, e = .returned (.agg #[.int .i64 (C : Int), .int .i64 (R : Int), u]) ∧ Sp.Own w' w.heap.size w'.heap.size u ((gridL C (R * C)).map (ptV pt)) ∧ u ≠ .slice none 0 0 ∧ Below w.heap.size w w' := by
  refine (callsIn_wide (n := 3)).1 ?_
  obtain ⟨i0, hi, hz0, hz1, hz2⟩ := info_parts Sp.info_rec
  have HF := Lib.hid hf
  clear hf
  refine callsIn_of_wp_marks Try.func65 rfl trivial ?_ rfl
  simp only [Try.ntmps65, List.size_toArray, List.length_cons, List.length_nil, Nat.reduceAdd, Nat.reduceSub, Array.replicate_succ, Array.replicate_zero, List.push_toArray, List.append_toArray, List.nil_append, List.cons_append]
  gi_wp2_with (refine ⟨trivial, ?_⟩; gi_at_call 74; refine (gridPlaces_in Fence.wide _ trivial rfl (C : Int) (R : Int) _).mono ?_; rintro e w' ⟨rfl, rfl⟩)
  have hmx : Try.prog.follows .mixedOrders = true := by kernel_rfl
  obtain ⟨W0, hW0⟩ : ∃ W, W = (((((w.alloc (Obj.cells #[Value.func (Fn.func G) #[] cb] 80)).alloc (Obj.cells #[Value.int IntKind.i64 0, Value.int IntKind.i64 0, Value.slice none 0 0] 29)).alloc (Obj.cells #[Value.int IntKind.i64 (C : Int), Value.int IntKind.i64 (R : Int), Value.slice none 0 0] 29)).alloc (Obj.cells #[Value.int IntKind.i64 (C : Int)] 2)).alloc (Obj.cells #[Value.int IntKind.i64 (R : Int)] 2)) := ⟨_, rfl⟩
  rw [← hW0]
  have hS0 : W0.heap.size = w.heap.size + 5 := by rw [hW0]; simp
  have q1 : W0.cell? ⟨w.heap.size + 1 + 1 + 1 + 1, 0, none⟩ = some (.int .i64 (R : Int)) := by rw [hW0, World.cell?_alloc_at _ _ _ _ (by simp)]; rfl
  have q2 : W0.cell? ⟨w.heap.size + 1 + 1 + 1, 0, none⟩ = some (.int .i64 (C : Int)) := by rw [hW0, World.cell?_alloc_lt _ _ _ (by first | (simp; done) | (simp; omega)), World.cell?_alloc_at _ _ _ _ (by simp)]; rfl
  have q3 : W0.cell? ⟨w.heap.size, 0, none⟩ = some (.func (.func G) #[] cb) := by rw [hW0, World.cell?_alloc_lt _ _ _ (by first | (simp; done) | (simp; omega)), World.cell?_alloc_lt _ _ _ (by first | (simp; done) | (simp; omega)), World.cell?_alloc_lt _ _ _ (by first | (simp; done) | (simp; omega)), World.cell?_alloc_lt _ _ _ (by first | (simp; done) | (simp; omega)), World.cell?_alloc_at _ _ _ _ (by simp)]; rfl
  have q4 : W0.heap[w.heap.size + 1 + 1]? = some (.cells #[.int .i64 (C : Int), .int .i64 (R : Int), .slice none 0 0] 29 (0, 0)) := by
    rw [hW0, Below.heap_alloc _ _ _ (by first | (simp; done) | (simp; omega)), Below.heap_alloc _ _ _ (by first | (simp; done) | (simp; omega))]
    have := World.alloc_heap_new ((w.alloc (Obj.cells #[Value.func (Fn.func G) #[] cb] 80)).alloc (Obj.cells #[Value.int IntKind.i64 0, Value.int IntKind.i64 0, Value.slice none 0 0] 29)) (.cells #[.int .i64 (C : Int), .int .i64 (R : Int), .slice none 0 0] 29)
    simpa using this
  have q5 : Below w.heap.size w W0 := by
    rw [hW0]
    repeat (first | exact Below.refl _ _ | refine Below.setCell ?_ (by first | (simp; done) | omega | (simp; omega)) _ | refine Below.alloc ?_ (by first | (simp; done) | omega | (simp; omega)) _ | refine bel_drew ?_)
  have q7 : W0.heap[w.heap.size + 1]? = some rz := by
    rw [hW0, Below.heap_alloc _ _ _ (by first | (simp; done) | (simp; omega)), Below.heap_alloc _ _ _ (by first | (simp; done) | (simp; omega)), Below.heap_alloc _ _ _ (by first | (simp; done) | (simp; omega))]
    have := World.alloc_heap_new (w.alloc (Obj.cells #[Value.func (Fn.func G) #[] cb] 80)) (.cells #[.int .i64 0, .int .i64 0, .slice none 0 0] 29)
    simpa using this
  clear hW0
  have I0 : IM w w.heap.size (w.heap.size + 1) (w.heap.size + 1 + 1) (w.heap.size + 5) (.func (.func G) #[] cb) (C : Int) (R : Int) [] W0 := ⟨by omega, q3, q7, ⟨_, q4, World.ownsRow_nil _ _ _ _⟩, q5⟩
  have SQ := grid_stops Fence.wide 2 trivial rfl (by omega) C R (by omega) (by omega) (w.heap.size + 1 + 1 + 1 + 1) (w.heap.size + 1 + 1 + 1) W0 q1 q2
  clear q1 q2 q3 q4
  refine wpIn_rangeFunc_ownG rfl (by omega) (gf := 109) (lb := #[.pointer (some ⟨w.heap.size + 1 + 1 + 1 + 1, 0, none⟩), .pointer (some ⟨w.heap.size + 1 + 1 + 1, 0, none⟩)]) rfl trivial (enters_of Try.func109 (by kernel_rfl) rfl)
    SQ (keptB_t) (keptB_b (by omega)) (Below.refl _ _) (fun _ => rfl)
    (fun pre W => IM w w.heap.size (w.heap.size + 1) (w.heap.size + 1 + 1) (w.heap.size + 5) (.func (.func G) #[] cb) (C : Int) (R : Int) (List.map (fun x : Pl C R => ptV pt x.1) pre) W)
    (fun _ _ _ => False)
    (IM.own (fun x : Pl C R => ptV pt x.1) w _ _ _ _ _ _ _ _ (by omega))
    (fun _ _ _ _ _ hs _ _ => hs)
    I0
    (fun x => { tmps := #[.int .i64 (C : Int), .int .i64 (R : Int), .func (.func G) #[] cb, undef, undef, .pointer (some ⟨w.heap.size, 0, none⟩), .pointer (some ⟨w.heap.size + 1, 0, none⟩), .pointer (some ⟨w.heap.size + 1 + 1, 0, none⟩), .int .i64 (x.1.1 : Int), .int .i64 (x.1.2 : Int), .int .i64 (C : Int), .int .i64 (R : Int), .agg #[.int .i64 (C : Int), .int .i64 (R : Int), .slice none 0 0], .int .i64 (C : Int), .int .i64 (R : Int), .func (.func 109) #[] #[.pointer (some ⟨w.heap.size + 1 + 1 + 1 + 1, 0, none⟩), .pointer (some ⟨w.heap.size + 1 + 1 + 1, 0, none⟩)], .int .i64 (x.1.1 : Int), .int .i64 (x.1.2 : Int), undef, undef, undef, undef, undef, undef, undef, undef, undef, undef], defers := [] }) ?assign ?body ?done ?stop
  case assign =>
    intro l x W K hK
    dsimp only [encs]
    gi_wp2
    exact hK
  case body =>
    rintro l pre ⟨⟨x, y⟩, hx, hy⟩ W ⟨hS, hfn, hrb, ⟨v, hv, hrow⟩, hB⟩ hlt
    have hd : 1 ≤ 3 - 1 - 1 := by omega
    have hsW : w.heap.size + 5 ≤ W.heap.size := hS
    have hcv : W.cell? ⟨w.heap.size + 1 + 1, 2, none⟩ = some v := by simp [World.cell?, hv]
    have CL := Lib.hid (fun (W1 : World) (hW1 : Below w.heap.size w W1) => HF.out W1 x y hx hy hW1)
    have hxx : x < C := hx
    have hyy : y < R := hy
    have hmul : C * R ≤ 81 := Nat.mul_le_mul hC.2 hR.2
    have ST := Lib.hid (fun (W3 : World) (h3 : Below W.heap.size W W3) => round_app (b2 := w.heap.size + 1 + 1 + 1) hi hz0 hz1 hz2 hfn hrb hv hrow hB (by omega) (by omega) (by omega) (by omega) (by omega) (by omega) (by omega) (by omega) hS (by rw [List.length_map]; omega) (pt x y).1 (pt x y).2 W3 h3)
    gi_wp2
    refine region_round rfl hmx (by kernel_rfl) ?_
    refine wpAnyIn_take (i := 0) (v := .pointer (some ⟨w.heap.size + 1 + 1, 2, none⟩)) rfl rfl (by kernel_rfl) (by kernel_rfl) (by kernel_rfl) (fun _ _ _ h => h) ⟨Or.inl ⟨by rfl, by intro w; go_simp⟩, fun _ => rfl⟩ ?_
    refine wpAnyIn_take (i := 3) (v := .int .i64 (x : Int)) rfl rfl (by kernel_rfl) (by kernel_rfl) (by kernel_rfl) (fun _ _ _ h => h) ⟨Or.inl ⟨by rfl, by intro w; go_simp⟩, fun _ => rfl⟩ ?_
    refine wpAnyIn_take (i := 4) (v := .int .i64 (y : Int)) rfl rfl (by kernel_rfl) (by kernel_rfl) (by kernel_rfl) (fun _ _ _ h => h) ⟨Or.inl ⟨by rfl, by intro w; go_simp⟩, fun _ => rfl⟩ ?_
    refine wpAnyIn_ready (rs := [1, 2]) (by kernel_rfl) (by simp) ?_
    refine AllReadyIn.cons rfl (fun K hK => ?_) (AllReadyIn.cons rfl (fun K hK => ?_) AllReadyIn.nil)
    ·
      go_simp
      refine hK _ _ ?_
      clear hK K
      refine wpAnyIn_ready (rs := [2]) (by kernel_rfl) (by simp) ?_
      refine AllReadyIn.cons rfl (fun K hK => ?_) AllReadyIn.nil
      go_simp
      refine hK _ _ ?_
      clear hK K
      refine wpAnyIn_ready (rs := [5]) (by kernel_rfl) (by simp) ?_
      refine AllReadyIn.cons rfl (fun K hK => ?_) AllReadyIn.nil
      go_simp
      gi_wp2_with (refine ⟨trivial, ?_⟩; gi_at_fn G; refine (callsIn_wide.2 (CL.out _ (bel_drew hB))).mono ?_; rintro e W3 ⟨rfl, hb3⟩)
      have hb3' := undrewG hb3
      obtain ⟨v', w4, hrun, ⟨hc4, hf4⟩, hI4, hK4, hF4, hvf⟩ := ST.out W3 hb3'
      obtain ⟨g4, c4, rfl⟩ := hvf
      simp only [List.length_map] at hrun hI4 hK4 hF4
      have hcv3 : W3.cell? ⟨w.heap.size + 1 + 1, 2, none⟩ = some v := (hb3'.cell (p := ⟨w.heap.size + 1 + 1, 2, none⟩) (show w.heap.size + 1 + 1 < W.heap.size by omega)).trans hcv
      have hcv4 : (W3.alloc (Obj.cells #[Value.int IntKind.i64 (pt x y).1, Value.int IntKind.i64 (pt x y).2] 39)).cell? ⟨w.heap.size + 1 + 1, 2, none⟩ = some v := by rw [World.cell?_alloc_lt _ _ _ (show w.heap.size + 1 + 1 < W3.heap.size by have := hb3'.size; omega)]; exact hcv3
      try (refine hK _ _ ?_; clear hK K)
      refine wpAnyIn_ready (rs := [6]) (by kernel_rfl) (by simp) ?_
      refine AllReadyIn.cons rfl (fun K hK => ?_) AllReadyIn.nil
      go_simp
      refine hK _ _ ?_
      clear hK K
      refine wpAnyIn_ready (rs := [7]) (by kernel_rfl) (by simp) ?_
      refine AllReadyIn.cons rfl (fun K hK => ?_) AllReadyIn.nil
      refine opIn_append (.tmp 19) (.tmp 24) 27 rfl rfl rfl rfl hrun ?_
      refine hK _ _ ?_
      clear hK K
      refine wpAnyIn_ready (rs := [8]) (by kernel_rfl) (by simp) ?_
      refine AllReadyIn.cons rfl (fun K hK => ?_) AllReadyIn.nil
      go_simp
      refine hK _ _ ?_
      clear hK K
      refine wpAnyIn_ready (rs := [9]) (by kernel_rfl) (by simp) ?_
      refine AllReadyIn.cons rfl (fun K hK => ?_) AllReadyIn.nil
      go_simp
      refine hK _ _ ?_
      clear hK K
      refine wpAnyIn_done (by kernel_rfl) ?_ _
      gi_wp2
      refine ⟨keepsFrom_mono hF4 (by omega), hK4, ?_⟩
      simp only [List.map_append, List.map_cons, List.map_nil]
      exact hI4
    ·
      go_simp
      refine hK _ _ ?_
      clear hK K
      refine wpAnyIn_ready (rs := [1, 5]) (by kernel_rfl) (by simp) ?_
      refine AllReadyIn.cons rfl (fun K hK => ?_) (AllReadyIn.cons rfl (fun K hK => ?_) AllReadyIn.nil)
      ·
        go_simp
        refine hK _ _ ?_
        clear hK K
        refine wpAnyIn_ready (rs := [5]) (by kernel_rfl) (by simp) ?_
        refine AllReadyIn.cons rfl (fun K hK => ?_) AllReadyIn.nil
        go_simp
        gi_wp2_with (refine ⟨trivial, ?_⟩; gi_at_fn G; refine (callsIn_wide.2 (CL.out _ (bel_drew hB))).mono ?_; rintro e W3 ⟨rfl, hb3⟩)
        have hb3' := undrewG hb3
        obtain ⟨v', w4, hrun, ⟨hc4, hf4⟩, hI4, hK4, hF4, hvf⟩ := ST.out W3 hb3'
        obtain ⟨g4, c4, rfl⟩ := hvf
        simp only [List.length_map] at hrun hI4 hK4 hF4
        have hcv3 : W3.cell? ⟨w.heap.size + 1 + 1, 2, none⟩ = some v := (hb3'.cell (p := ⟨w.heap.size + 1 + 1, 2, none⟩) (show w.heap.size + 1 + 1 < W.heap.size by omega)).trans hcv
        have hcv4 : (W3.alloc (Obj.cells #[Value.int IntKind.i64 (pt x y).1, Value.int IntKind.i64 (pt x y).2] 39)).cell? ⟨w.heap.size + 1 + 1, 2, none⟩ = some v := by rw [World.cell?_alloc_lt _ _ _ (show w.heap.size + 1 + 1 < W3.heap.size by have := hb3'.size; omega)]; exact hcv3
        try (refine hK _ _ ?_; clear hK K)
        refine wpAnyIn_ready (rs := [6]) (by kernel_rfl) (by simp) ?_
        refine AllReadyIn.cons rfl (fun K hK => ?_) AllReadyIn.nil
        go_simp
        refine hK _ _ ?_
        clear hK K
        refine wpAnyIn_ready (rs := [7]) (by kernel_rfl) (by simp) ?_
        refine AllReadyIn.cons rfl (fun K hK => ?_) AllReadyIn.nil
        refine opIn_append (.tmp 19) (.tmp 24) 27 rfl rfl rfl rfl hrun ?_
        refine hK _ _ ?_
        clear hK K
        refine wpAnyIn_ready (rs := [8]) (by kernel_rfl) (by simp) ?_
        refine AllReadyIn.cons rfl (fun K hK => ?_) AllReadyIn.nil
        go_simp
        refine hK _ _ ?_
        clear hK K
        refine wpAnyIn_ready (rs := [9]) (by kernel_rfl) (by simp) ?_
        refine AllReadyIn.cons rfl (fun K hK => ?_) AllReadyIn.nil
        go_simp
        refine hK _ _ ?_
        clear hK K
        refine wpAnyIn_done (by kernel_rfl) ?_ _
        gi_wp2
        refine ⟨keepsFrom_mono hF4 (by omega), hK4, ?_⟩
        simp only [List.map_append, List.map_cons, List.map_nil]
        exact hI4
      ·
        go_simp
        gi_wp2_with (refine ⟨trivial, ?_⟩; gi_at_fn G; refine (callsIn_wide.2 (CL.out _ (bel_drew hB))).mono ?_; rintro e W3 ⟨rfl, hb3⟩)
        have hb3' := undrewG hb3
        obtain ⟨v', w4, hrun, ⟨hc4, hf4⟩, hI4, hK4, hF4, hvf⟩ := ST.out W3 hb3'
        obtain ⟨g4, c4, rfl⟩ := hvf
        simp only [List.length_map] at hrun hI4 hK4 hF4
        have hcv3 : W3.cell? ⟨w.heap.size + 1 + 1, 2, none⟩ = some v := (hb3'.cell (p := ⟨w.heap.size + 1 + 1, 2, none⟩) (show w.heap.size + 1 + 1 < W.heap.size by omega)).trans hcv
        have hcv4 : (W3.alloc (Obj.cells #[Value.int IntKind.i64 (pt x y).1, Value.int IntKind.i64 (pt x y).2] 39)).cell? ⟨w.heap.size + 1 + 1, 2, none⟩ = some v := by rw [World.cell?_alloc_lt _ _ _ (show w.heap.size + 1 + 1 < W3.heap.size by have := hb3'.size; omega)]; exact hcv3
        try (refine hK _ _ ?_; clear hK K)
        refine wpAnyIn_ready (rs := [1, 6]) (by kernel_rfl) (by simp) ?_
        refine AllReadyIn.cons rfl (fun K hK => ?_) (AllReadyIn.cons rfl (fun K hK => ?_) AllReadyIn.nil)
        ·
          go_simp
          refine hK _ _ ?_
          clear hK K
          refine wpAnyIn_ready (rs := [6]) (by kernel_rfl) (by simp) ?_
          refine AllReadyIn.cons rfl (fun K hK => ?_) AllReadyIn.nil
          go_simp
          refine hK _ _ ?_
          clear hK K
          refine wpAnyIn_ready (rs := [7]) (by kernel_rfl) (by simp) ?_
          refine AllReadyIn.cons rfl (fun K hK => ?_) AllReadyIn.nil
          refine opIn_append (.tmp 19) (.tmp 24) 27 rfl rfl rfl rfl hrun ?_
          refine hK _ _ ?_
          clear hK K
          refine wpAnyIn_ready (rs := [8]) (by kernel_rfl) (by simp) ?_
          refine AllReadyIn.cons rfl (fun K hK => ?_) AllReadyIn.nil
          go_simp
          refine hK _ _ ?_
          clear hK K
          refine wpAnyIn_ready (rs := [9]) (by kernel_rfl) (by simp) ?_
          refine AllReadyIn.cons rfl (fun K hK => ?_) AllReadyIn.nil
          go_simp
          refine hK _ _ ?_
          clear hK K
          refine wpAnyIn_done (by kernel_rfl) ?_ _
          gi_wp2
          refine ⟨keepsFrom_mono hF4 (by omega), hK4, ?_⟩
          simp only [List.map_append, List.map_cons, List.map_nil]
          exact hI4
        ·
          go_simp
          refine hK _ _ ?_
          clear hK K
          refine wpAnyIn_ready (rs := [1]) (by kernel_rfl) (by simp) ?_
          refine AllReadyIn.cons rfl (fun K hK => ?_) AllReadyIn.nil
          go_simp
          refine hK _ _ ?_
          clear hK K
          refine wpAnyIn_ready (rs := [7]) (by kernel_rfl) (by simp) ?_
          refine AllReadyIn.cons rfl (fun K hK => ?_) AllReadyIn.nil
          refine opIn_append (.tmp 19) (.tmp 24) 27 rfl rfl rfl rfl hrun ?_
          refine hK _ _ ?_
          clear hK K
          refine wpAnyIn_ready (rs := [8]) (by kernel_rfl) (by simp) ?_
          refine AllReadyIn.cons rfl (fun K hK => ?_) AllReadyIn.nil
          go_simp
          refine hK _ _ ?_
          clear hK K
          refine wpAnyIn_ready (rs := [9]) (by kernel_rfl) (by simp) ?_
          refine AllReadyIn.cons rfl (fun K hK => ?_) AllReadyIn.nil
          go_simp
          refine hK _ _ ?_
          clear hK K
          refine wpAnyIn_done (by kernel_rfl) ?_ _
          gi_wp2
          refine ⟨keepsFrom_mono hF4 (by omega), hK4, ?_⟩
          simp only [List.map_append, List.map_cons, List.map_nil]
          exact hI4
  case done =>
    rintro D ys W hD hys ⟨hS, hfn, hrb, ⟨v, hv, hrow⟩, hB⟩ hK
    obtain ⟨av, cv, rfl⟩ := (Sp.Own.mk hrow).len
    have hc0 : W.cell? ⟨w.heap.size + 1 + 1, 0, none⟩ = some (.int .i64 (C : Int)) := by simp [World.cell?, hv]
    have hc1 : W.cell? ⟨w.heap.size + 1 + 1, 1, none⟩ = some (.int .i64 (R : Int)) := by simp [World.cell?, hv]
    have hc2 : W.cell? ⟨w.heap.size + 1 + 1, 2, none⟩ = some (.slice av (List.map (fun x : Pl C R => ptV pt x.1) ys).length cv) := by simp [World.cell?, hv]
    have hr0 : W.cell? ⟨w.heap.size + 1, 0, none⟩ = some (.int .i64 0) := by simp [World.cell?, hrb]
    have hr1 : W.cell? ⟨w.heap.size + 1, 1, none⟩ = some (.int .i64 0) := by simp [World.cell?, hrb]
    have hr2 : W.cell? ⟨w.heap.size + 1, 2, none⟩ = some (.slice none 0 0) := by simp [World.cell?, hrb]
    have hf0 : W.frozen? ⟨w.heap.size + 1, 0, none⟩ = false := by simp [World.frozen?, hrb]
    have hf1 : W.frozen? ⟨w.heap.size + 1, 1, none⟩ = false := by simp [World.frozen?, hrb]
    have hf2 : W.frozen? ⟨w.heap.size + 1, 2, none⟩ = false := by simp [World.frozen?, hrb]
    gi_wp2
    simp only [List.length_map] at hrow hc2
    obtain ⟨Wf, hWf⟩ : ∃ W', W' = ((W.setCell ⟨w.heap.size + 1, 0, none⟩ (.int .i64 (C : Int))).setCell ⟨w.heap.size + 1, 1, none⟩ (.int .i64 (R : Int))).setCell ⟨w.heap.size + 1, 2, none⟩ (.slice av ys.length cv) := ⟨_, rfl⟩
    rw [← hWf]
    have kf : KeepsOthers W Wf := by rw [hWf]; exact ((KeepsOthers.setCell _ _ _).trans (KeepsOthers.setCell _ _ _)).trans (KeepsOthers.setCell _ _ _)
    have hKf := kf.same D _ hK rfl
    have bf : Below w.heap.size w Wf := by rw [hWf]; exact ((hB.setCell (p := ⟨w.heap.size + 1, 0, none⟩) (Nat.le_succ _) _).setCell (p := ⟨w.heap.size + 1, 1, none⟩) (Nat.le_succ _) _).setCell (p := ⟨w.heap.size + 1, 2, none⟩) (Nat.le_succ _) _
    have mf : Mod (w.heap.size + 1) (w.heap.size + 1 + 1) W Wf := by rw [hWf]; exact (((Mod.refl _ _ _).setCell (Nat.le_refl _) (Nat.lt_succ_self _) _).setCell (Nat.le_refl _) (Nat.lt_succ_self _) _).setCell (Nat.le_refl _) (Nat.lt_succ_self _) _
    have e0 : Wf.cell? ⟨w.heap.size + 1, 0, none⟩ = some (.int .i64 (C : Int)) := by rw [hWf]; simp [hr0, hr1, hr2, go_sem]
    have e1 : Wf.cell? ⟨w.heap.size + 1, 1, none⟩ = some (.int .i64 (R : Int)) := by rw [hWf]; simp [hr0, hr1, hr2, go_sem]
    have e2 : Wf.cell? ⟨w.heap.size + 1, 2, none⟩ = some (.slice av ys.length cv) := by rw [hWf]; simp [hr0, hr1, hr2, go_sem]
    have hgp := grownBy_putObj' Wf D (.deferred none)
    have p0 := cell_kept e0 hgp (fun r e => by cases e; exact ⟨_, hKf, rfl⟩)
    have p1 := cell_kept e1 hgp (fun r e => by cases e; exact ⟨_, hKf, rfl⟩)
    have p2 := cell_kept e2 hgp (fun r e => by cases e; exact ⟨_, hKf, rfl⟩)
    have eL : List.map (fun x : Pl C R => ptV pt x.1) ys = (gridL C (R * C)).map (ptV pt) := by rw [← hys, List.map_map]; rfl
    have eN : ys.length = R * C := by rw [← List.length_map (f := fun x : Pl C R => x.1), hys, gridL_len]
    have ho0 : Sp.Own W (w.heap.size + 5) W.heap.size (.slice av ys.length cv) ((gridL C (R * C)).map (ptV pt)) := by
      rw [eL] at hrow
      refine Sp.Own.mk ?_
      have hn : ((gridL C (R * C)).map (ptV pt)).length = ys.length := by rw [List.length_map, gridL_len, eN]
      rw [hn]
      exact hrow
    have ho := ho0.mod mf (Or.inr (by omega))
    refine ⟨by simp, .inl ⟨_, _, rfl, run_takeDeferred hKf, ?_⟩⟩
    refine ⟨.agg #[.int .i64 (C : Int), .int .i64 (R : Int), .slice av ys.length cv], by simp [results, Try.results65, go_sem, p0, p1, p2], _, rfl, ?_, ?_, ?_⟩
    · have hr1 := ownsRow_putObj ho.1 (.deferred none) hKf rfl
      exact (Sp.Own.mk hr1).le (by omega) (Nat.le_refl _)
    · intro e
      injection e with _ e _
      have := Nat.mul_le_mul hR.1 hC.1
      omega
    · exact bf.trans (belowK_b (w := w) (Nat.le_refl _) Wf D _ _ (by omega) hKf rfl rfl)
  case stop =>
    rintro D c pre W _ _ h _
    exact h.elim
end Go.Proofs.Ytbbkohpmncfilaa.Me
