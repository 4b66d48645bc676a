/-
  DropStar (package impl): starPlaces, DropStar.
-/
import Derived.Test.YtnobiepjjdcofaaDropS
import Derived.Test.YtnobiepjjdcofaaCopy5
import Derived.Test.YtnobiepjjdcofaaStarI
import Derived.IntWalk
namespace Go.Proofs.Ytnobiepjjdcofaa
open Go.RowKit
set_option linter.unusedVariables false

set_option maxRecDepth 100000 in
set_option maxHeartbeats 2000000 in
theorem starPlaces_any (g cap : Nat) (zs : List StarV) (w : World) (hb : zs.length ≤ 1048577) (h1 : Row w g zs) (hd : ∀ i j, i < j → (hj : j < zs.length) → (zs.getD i star0).s ≠ (zs.getD j star0).s) :
    Calls Try.prog 30 #[.slice (some ⟨g, 0, none⟩) zs.length cap] w fun e w' => e = .returned (.map (some w.heap.size)) ∧ w'.heap[w.heap.size]? = some (.map (entsS zs zs.length) zs.length) ∧ Below w.heap.size w w' := by
  have H1 := Lib.hid h1
  have HD := Lib.hid hd
  clear h1 hd
  have hmm : (Instr.makeMap 58 (some (.int .i64 (zs.length : Int)))).run Try.prog w = .ok (.map (some w.heap.size)) (w.alloc (.map #[] 0)) := by simp [Instr.makeMap]; rfl
  have ES := Lib.hid (entsS_succ zs)
  have E0 : Hid (entsS zs 0 = #[]) := Lib.hid rfl
  have FN := Lib.hid (fun j s h => find_new (zs := zs) (j := j) (s := s) h)
  generalize entsS zs = E at *
  go_enter Try.func30, Try.ntmps30
  go_wp2_with fail
  clear hmm
  have hnew : (w.alloc (.map #[] 0)).heap[w.heap.size]? = some (.map #[] 0) := heap_alloc_new w _
  go_loopg [11] (zs.length + 1) (fun kx s11 wr => ∃ (j : Nat), s11 = .int .i64 (j : Int) ∧ j ≤ zs.length ∧ kx = zs.length + 1 - j ∧ Hid (wr.heap[w.heap.size]? = some (.map (E j) j)) ∧ Hid (Below w.heap.size w wr))
  case atStart => exact ⟨0, rfl, Nat.zero_le _, rfl, Lib.hid (by rw [E0.out]; exact hnew), Lib.hid ((Below.refl _ w).alloc (Nat.le_refl _) _)⟩
  case round =>
    obtain ⟨j, rfl, hj, rfl, HM, HB⟩ := hrel
    clear hnew
    by_cases hlt : j < zs.length
    · have j0 : (0 : Int) ≤ (j : Int) := by omega
      have j1 : (j : Int) < (zs.length : Int) := by omega
      obtain ⟨c0, c1, c2, c3, c4⟩ := (H1.out.below HB.out).at j hlt
      have FJ := Lib.hid (FN.out j zs[j].s (fun i hi => by
        have := HD.out i j hi hlt
        rw [getD_at zs j hlt] at this
        exact this))
      have ESj := ES.out j
      rw [getD_at zs j hlt] at ESj
      generalize E j = es at *
      generalize zs[j] = x at *
      obtain ⟨xs, xa, xb, xc, xd⟩ := x
      simp only at c0 c1 c2 c3 c4 FJ ESj
      have hmlt : w.heap.size < wr.heap.size := (Array.getElem?_eq_some_iff.1 HM.out).1
      have hm2 : (wr.alloc (Obj.cells #[.string xs, .int .i64 xa, .int .i64 xb, .int .i64 xc, .int .i64 xd] 31)).heap[w.heap.size]? = some (.map es j) := (((Below.refl wr.heap.size wr).alloc (Nat.le_refl _) _).block _ hmlt).trans HM.out
      have hb2 : Below w.heap.size w (wr.alloc (Obj.cells #[.string xs, .int .i64 xa, .int .i64 xb, .int .i64 xc, .int .i64 xd] 31)) := HB.out.alloc HB.out.size _
      go_wp2_with (at_mapUpdate; refine wpList_put_name _ rfl _ _ _ 58 9 3 rfl Try.underlying58 Try.underlying9 w.heap.size es j rfl hm2 xs _ rfl rfl FJ.out ?_; intro w3 hm3 hg3)
      have HM3 : Hid (w3.heap[w.heap.size]? = some (.map (E (j + 1)) (j + 1))) := Lib.hid (by rw [ESj]; exact hm3)
      have HB3 := Lib.hid (hb2.grown hg3 hb2.size (fun kk hk => by cases hk; exact Nat.le_refl _))
      clear hm3 hg3 hm2 hb2 c0 c1 c2 c3 c4 ESj
      go_wp2_with fail
      go_roundg (zs.length + 1 - (j + 1))
      case measure => omega
      case rel => exact ⟨j + 1, by go_num, by omega, by omega, HM3, HB3⟩
    · obtain rfl : j = zs.length := by omega
      go_wp2_with fail
      go_ret
      exact ⟨rfl, HM.out, HB.out⟩

theorem splice2 {α : Type} (Z X1 X2 : List α) (k : Nat) (hk : X1.length = k) (hZ : Z.length = k + X2.length) : splice (splice Z 0 X1) k X2 = X1 ++ X2 := by
  subst hk
  unfold splice
  have e1 : Z.take 0 ++ (X1 ++ Z.drop (0 + X1.length)) = X1 ++ Z.drop X1.length := by simp
  have e3 : (Z.drop X1.length).drop X2.length = [] := List.drop_eq_nil_of_le (by rw [List.length_drop]; omega)
  rw [e1, List.take_left, List.drop_length_add_append, e3, List.append_nil]
/-- What make lays. -/
def zS (m : Nat) : List Value := (madeCells #[.string ByteArray.empty, .int .i64 0, .int .i64 0, .int .i64 0, .int .i64 0] (m * 5)).toList
theorem zS_len (m : Nat) : (zS m).length = m * 5 := by unfold zS; rw [Array.length_toList, size_madeCells]
theorem made_heap (w : World) (m : Nat) : (w.alloc (.cells (madeCells #[.string ByteArray.empty, .int .i64 0, .int .i64 0, .int .i64 0, .int .i64 0] (m * 5)) 31)).heap[w.heap.size]? = some (.cells (zS m).toArray 31 (0, 0)) := by
  unfold zS
  rw [Array.toArray_toList]
  exact heap_alloc_new w _
theorem min_left5 {k m : Nat} (h : k ≤ m) : Nat.min k m = k := Nat.min_eq_left h
theorem info5 : (Try.prog.info? 31).map (·.size) = some 5 := by kernel_rfl

end Go.Proofs.Ytnobiepjjdcofaa
