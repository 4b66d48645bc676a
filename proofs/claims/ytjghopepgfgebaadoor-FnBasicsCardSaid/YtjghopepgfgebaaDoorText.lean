/-
  Lists as texts: the contracts of ListText (package impl) and of l01Fits, l01List, ListText (package spec).
-/
import Derived.Test.YtjghopepgfgebaaDoorIntS
import Derived.Test.YtjghopepgfgebaaDoorShelfJoin
import Derived.Lib.Join
namespace Go.Proofs.YtjghopepgfgebaaDoor
open Go.RowKit

def fitsB (zs : List Int) : Bool := inR (-1000000000000) 1000000000000 zs && decide (zs.length ≤ 64)
def joinT (zs : List Int) : List UInt8 := Lib.join (zs.map Lib.itoa) [44]
def listT (zs : List Int) : List UInt8 := if fitsB zs = true then (if zs = [] then [45] else joinT zs) else []

theorem itoa_len (n : Int) (h0 : -1000000000000 ≤ n) (h1 : n ≤ 1000000000000) : (Lib.itoa n).length ≤ 20 := by
  by_cases h : n = 0
  · rw [h, itoa_zero]; simp
  · have e := congrArg List.length (signed_back n h)
    rw [List.length_reverse, List.length_map] at e
    have := signed_len n (by omega) (by omega)
    omega
theorem join_snoc (xs : List (List UInt8)) (x : List UInt8) (h : xs ≠ []) : Lib.join (xs ++ [x]) [44] = Lib.join xs [44] ++ [44] ++ x := by
  cases xs with
  | nil => exact absurd rfl h
  | cons a r =>
    rw [List.cons_append, Lib.join_cons, Lib.join_cons]
    simp [Lib.joinTail]
theorem inR_at (lo hi : Int) (zs : List Int) (h : inR lo hi zs = true) (j : Nat) (hj : j < zs.length) : lo ≤ zs[j] ∧ zs[j] ≤ hi := by
  unfold inR at h
  rw [List.all_eq_true] at h
  have := h zs[j] (List.getElem_mem hj)
  simpa using this
theorem inR_not (lo hi : Int) (zs : List Int) (j : Nat) (hj : j < zs.length) (h : inR lo hi [zs[j]] = false) : inR lo hi zs = false := by
  unfold inR at *
  rw [List.all_eq_false]
  refine ⟨zs[j], List.getElem_mem hj, ?_⟩
  simpa using h
theorem inR_take (lo hi : Int) (zs : List Int) (j : Nat) (hj : j < zs.length) (h1 : inR lo hi (zs.take j) = true) (h : inR lo hi [zs[j]] = true) : inR lo hi (zs.take (j + 1)) = true := by
  unfold inR at *
  rw [List.take_succ_eq_append_getElem hj, List.all_append, h1, h]
  rfl
/-- The text of the first j numbers. -/
def joinTo (zs : List Int) (j : Nat) : List UInt8 := joinT (zs.take j)
theorem joinTo_zero (zs : List Int) : joinTo zs 0 = [] := by unfold joinTo joinT; rw [List.take_zero]; rfl
theorem joinTo_one (zs : List Int) (h : 0 < zs.length) : joinTo zs 1 = Lib.itoa zs[0] := by
  unfold joinTo joinT
  rw [List.take_succ_eq_append_getElem h, List.take_zero, List.nil_append, List.map_cons, List.map_nil, Lib.join_one]
theorem joinTo_next (zs : List Int) (j : Nat) (h0 : 0 < j) (h : j < zs.length) : joinTo zs (j + 1) = joinTo zs j ++ [44] ++ Lib.itoa zs[j] := by
  unfold joinTo joinT
  rw [List.take_succ_eq_append_getElem h, List.map_append, List.map_cons, List.map_nil]
  refine join_snoc _ _ fun e => ?_
  have hl := congrArg List.length e
  rw [List.length_map, List.length_take, List.length_nil] at hl
  omega
theorem joinTo_len (zs : List Int) (h : inR (-1000000000000) 1000000000000 zs = true) : ∀ j, j ≤ zs.length → (joinTo zs j).length ≤ 21 * j
  | 0, _ => by rw [joinTo_zero]; simp
  | 1, hj => by
    rw [joinTo_one zs (by omega)]
    obtain ⟨b0, b1⟩ := inR_at _ _ zs h 0 (by omega)
    have := itoa_len zs[0] b0 b1
    omega
  | j + 2, hj => by
    have ih := joinTo_len zs h (j + 1) (by omega)
    obtain ⟨b0, b1⟩ := inR_at _ _ zs h (j + 1) (by omega)
    have := itoa_len zs[j + 1] b0 b1
    rw [joinTo_next zs (j + 1) (by omega) (by omega), List.length_append, List.length_append]
    simp
    omega

theorem app_bytes (a b : List UInt8) : (⟨a.toArray⟩ : ByteArray) ++ (⟨b.toArray⟩ : ByteArray) = ⟨(a ++ b).toArray⟩ := by
  apply WideShapes.bytes_inj
  rw [ByteArray.data_append, Array.toList_append]

theorem fits_iff (zs : List Int) : fitsB zs = true ↔ inR (-1000000000000) 1000000000000 zs = true ∧ zs.length ≤ 64 := by unfold fitsB; rw [Bool.and_eq_true, decide_eq_true_eq]

/-- The numbers as strings. -/
def strsT (zs : List Int) : List ByteArray := zs.map fun n => ⟨(Lib.itoa n).toArray⟩
theorem strsT_data (zs : List Int) : (strsT zs).map (·.data.toList) = zs.map Lib.itoa := by
  unfold strsT
  rw [List.map_map]
  rfl
theorem strsT_len (zs : List Int) : (strsT zs).length = zs.length := by simp [strsT]
/-- The texts made so far, empty ones behind them. -/
def textsTo (zs : List Int) (j : Nat) : List ByteArray := strsT (zs.take j) ++ List.replicate (zs.length - j) ByteArray.empty
theorem textsTo_zero (zs : List Int) : textsTo zs 0 = List.replicate zs.length ByteArray.empty := rfl
theorem textsTo_all (zs : List Int) : textsTo zs zs.length = strsT zs := by unfold textsTo; rw [List.take_length, Nat.sub_self]; simp
theorem textsTo_len (zs : List Int) (j : Nat) (h : j ≤ zs.length) : (textsTo zs j).length = zs.length := by
  unfold textsTo
  rw [List.length_append, strsT_len, List.length_take, List.length_replicate]
  omega
theorem textsTo_set (zs : List Int) (j : Nat) (h : j < zs.length) : (textsTo zs j).set j ⟨(Lib.itoa zs[j]).toArray⟩ = textsTo zs (j + 1) := by
  have hl : (strsT (zs.take j)).length = j := by rw [strsT_len, List.length_take]; omega
  unfold textsTo
  rw [show zs.length - j = (zs.length - (j + 1)) + 1 by omega, List.replicate_succ, List.set_append_right _ _ (by omega), hl, Nat.sub_self, List.set_cons_zero, List.take_succ_eq_append_getElem h]
  unfold strsT
  rw [List.map_append, List.append_assoc]
  rfl
theorem info_str' : (Tryd.prog.info? 9).map (fun i => (i.zero, i.size, i.bytes)) = some (some (.string ByteArray.empty), 1, 16) := by kernel_rfl
theorem fits_no (zs : List Int) (h : inR (-1000000000000) 1000000000000 zs = false) : fitsB zs = false := by unfold fitsB; rw [h]; rfl
theorem fits_long (zs : List Int) (h : ¬ zs.length ≤ 64) : fitsB zs = false := by
  unfold fitsB
  rw [show decide (zs.length ≤ 64) = false by simpa using h, Bool.and_false]
theorem cells_getD (g : Nat) (zs : List Int) (w : World) (hc : ∀ j, (hj : j < zs.length) → w.cell? ⟨g, j, none⟩ = some (.int .i64 zs[j])) : ∀ j, j < zs.length → w.cell? ⟨g, 0 + j, none⟩ = some (.int .i64 (zs.getD j 0)) := by
  intro j hj
  rw [Nat.zero_add, hc j hj]
  simp [List.getD, hj]

set_option maxRecDepth 100000 in
set_option maxHeartbeats 2000000 in
theorem implText_any (g cap : Nat) (zs : List Int) (w : World) (ht : TabOK w) (hgw : g < w.heap.size) (hb : zs.length ≤ 1048576) (hc : ∀ j, (hj : j < zs.length) → w.cell? ⟨g, j, none⟩ = some (.int .i64 zs[j])) :
    Calls Tryd.prog 31 #[.slice (some ⟨g, 0, none⟩) zs.length cap] w fun e w' => e = .returned (.string ⟨(listT zs).toArray⟩) ∧ Below w.heap.size w w' := by
  have HC := Lib.hid hc
  have HG := Lib.hid (cells_getD g zs w hc)
  clear hc
  unfold listT
  by_cases hl : zs.length ≤ 64
  · have hl' : decide ((64 : Int) < (zs.length : Int)) = false := by simp; omega
    cases hin : inR (-1000000000000) 1000000000000 zs with
    | false =>
      rw [if_neg (by rw [fits_no zs hin]; simp)]
      have HI := Lib.hid hin
      clear hin
      go_enter Tryd.func31, Tryd.ntmps31
      go_wp2_with fail
      refine (within64 _ _ _ _ _ _ zs _ rfl (by omega) HG.out).mono ?_
      rintro e w' ⟨rfl, rfl⟩
      rw [HI.out]
      go_wp2_with fail
      go_ret
      exact ⟨rfl, Below.refl _ _⟩
    | true =>
      rw [if_pos ((fits_iff zs).2 ⟨hin, hl⟩)]
      by_cases hz : zs.length = 0
      · obtain rfl : zs = [] := List.length_eq_zero_iff.1 hz
        rw [if_pos rfl]
        have HI := Lib.hid hin
        clear hin hz hl'
        go_enter Tryd.func31, Tryd.ntmps31
        go_wp2_with fail
        refine (within64 _ _ _ _ _ _ [] _ rfl (by simp) HG.out).mono ?_
        rintro e w' ⟨rfl, rfl⟩
        rw [HI.out]
        go_wp2_with fail
        go_ret
        exact ⟨rfl, Below.refl _ _⟩
      · have hz' : ((zs.length : Int) == 0) = false := beq_eq_false_iff_ne.2 (by omega)
        have hz'' : (zs.length == 0) = false := beq_eq_false_iff_ne.2 (by omega)
        have hne : ¬ zs = [] := fun e => hz (by rw [e]; rfl)
        rw [if_neg hne]
        have IA := Lib.hid (inR_at _ _ zs hin)
        have JL := Lib.hid (joinTo_len zs hin zs.length (Nat.le_refl _))
        have JF := Lib.hid (show joinTo zs zs.length = joinT zs by unfold joinTo; rw [List.take_length])
        have HI := Lib.hid hin
        have NE := Lib.hid hne
        clear hin hne
        have hmk := run_make_row' (P := Tryd.prog) 69 9 (.string ByteArray.empty) 16 Tryd.underlying69 info_str' rfl .i64 .i64 zs.length (by omega) (by omega)
        have hmade : (w.alloc (.cells (madeCells #[.string ByteArray.empty] zs.length) 9)).ownsRow w.heap.size 9 1 (.slice (some ⟨w.heap.size, 0, none⟩) zs.length zs.length) zs.length ((textsTo zs 0).map Value.string) := by
          have h1 := World.ownsRow_lit (base := w.heap.size) (e := 9) (size := 1) w (madeCells #[.string ByteArray.empty] zs.length) zs.length (Nat.le_refl _) (by unfold maxLen; omega) (by rw [size_madeCells, Nat.mul_one])
          rw [made_list] at h1
          rw [textsTo_zero, List.map_replicate]
          exact h1
        have MADE := Lib.hid hmade
        clear hmade
        go_enter Tryd.func31, Tryd.ntmps31
        go_wp2_with fail
        refine (within64 _ _ _ _ _ _ zs _ rfl (by omega) HG.out).mono ?_
        rintro e w' ⟨rfl, rfl⟩
        rw [HI.out]
        go_wp2_with fail
        clear hmk
        go_loopw [22] (fun i wr => ∃ j : Nat, i = .int .i64 (j : Int) ∧ j ≤ zs.length ∧ wr.ownsRow w.heap.size 9 1 (.slice (some ⟨w.heap.size, 0, none⟩) zs.length zs.length) zs.length ((textsTo zs j).map Value.string) ∧ Below w.heap.size w wr ∧ w.heap.size ≤ wr.heap.size)
          (fun i _ => zs.length - (intOf i).toNat)
        case atStart => exact ⟨0, rfl, Nat.zero_le _, MADE.out, (Below.refl _ _).alloc (Nat.le_refl _) _, by simp⟩
        case round =>
          obtain ⟨j, rfl, hj, hown, hbel, hsz⟩ := hrel
          by_cases hlt : j < zs.length
          · have c1 : wr.cell? ⟨g, j, none⟩ = some (.int .i64 zs[j]) := (hbel.cell (p := ⟨g, j, none⟩) hgw).trans (HC.out j hlt)
            obtain ⟨z0, z1⟩ := IA.out j hlt
            have TS := Lib.hid (textsTo_set zs j hlt)
            have TL := Lib.hid (textsTo_len zs j hj)
            have T2 := Lib.hid (ht.below hbel)
            generalize zs[j] = z at *
            go_wp2_with fail
            refine (implDec_any z _ (by omega) (by omega) T2.out).mono ?_
            rintro e w2 ⟨rfl, hb2⟩
            have hown2 := ownsRow_below hown hb2
            have hbel2 := hbel.trans (hb2.mono hsz)
            have hsz2 : w.heap.size ≤ w2.heap.size := hbel2.size
            have c2 : ∃ x, w2.cell? ⟨w.heap.size, j, none⟩ = some (.string x) := by
              rw [hown2.cellAt j (by omega), List.getElem?_map, List.getElem?_eq_getElem (by rw [TL.out]; exact hlt)]
              exact ⟨_, rfl⟩
            obtain ⟨x, c2⟩ := c2
            have f2 : w2.frozen? ⟨w.heap.size, j, none⟩ = false := hown2.frozenAt j
            have hst := (hown2.stored j (.string ⟨(Lib.itoa z).toArray⟩)).1
            rw [← List.map_set, TS.out] at hst
            have ST := Lib.hid hst
            have BL := Lib.hid (hbel2.setCell (p := ⟨w.heap.size, j, none⟩) (Nat.le_refl _) (.string ⟨(Lib.itoa z).toArray⟩))
            clear hown hown2 hst hbel hbel2 hb2 c1
            generalize (⟨(Lib.itoa z).toArray⟩ : ByteArray) = tx at *
            go_wp2_with fail
            go_roundw
            case rel => exact ⟨j + 1, by go_num, by omega, ST.out, BL.out, BL.out.size⟩
            case measure => (simp [intOf] <;> omega)
          · obtain rfl : j = zs.length := by omega
            rw [textsTo_all] at hown
            have hcl : ∀ (j : Nat) (x : ByteArray), (strsT zs)[j]? = some x → wr.cell? ⟨w.heap.size, 0 + j, none⟩ = some (.string x) := by
              intro j x hx
              have hjl : j < zs.length := by
                rw [← strsT_len]
                exact (List.getElem?_eq_some_iff.1 hx).1
              rw [Nat.zero_add, hown.cellAt j (by omega), List.getElem?_map, hx]
              rfl
            have hblk := (hown.lt _ rfl).2
            have hjn := Tryd.strings_Join w.heap.size 0 zs.length (strsT zs) ⟨#[44]⟩ wr hcl hblk (by rw [strsT_len]; omega) (by rw [strsT_len]; exact Nat.le_refl _) (by
              rw [strsT_data]
              show (joinT zs).length ≤ _
              rw [← JF.out]
              have := JL.out
              omega)
            rw [strsT_len, strsT_data] at hjn
            have JN := Lib.hid hjn
            clear hjn hcl hown
            go_wp2_with fail
            refine JN.out.mono ?_
            rintro e w2 ⟨rfl, hb2⟩
            have hfin := hbel.trans (hb2.mono hsz)
            clear hb2 hbel
            go_wp2_with fail
            go_ret
            exact ⟨rfl, hfin⟩
  · have hl' : decide ((64 : Int) < (zs.length : Int)) = true := by simp; omega
    rw [if_neg (by rw [fits_long zs hl]; simp)]
    go_enter Tryd.func31, Tryd.ntmps31
    go_wp2_with fail
    go_ret
    exact ⟨rfl, Below.refl _ _⟩
end Go.Proofs.YtjghopepgfgebaaDoor
