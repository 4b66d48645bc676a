/-
  Numbers read from a row of texts, one by one, with impl.ReadAngle: the contract of readEach (package impl).
-/
import Derived.Test.YtjghopepgfgebaaDoorRAng
import Derived.Test.YtjghopepgfgebaaDoorList
import Derived.Handy
namespace Go.Proofs.YtjghopepgfgebaaDoor
open Go.RowKit
set_option linter.unusedVariables false

/-- The number that ReadAngle returns. -/
def angE (l : List UInt8) : Int := if okA l = true then candA l else 0
def EachPostA (ok : Bool) (vs : List Int) (w : World) (e : Ending) (w' : World) : Prop :=
  ∃ v, e = .returned (.tuple #[v, .bool ok]) ∧ (ok = true → w'.ownsRow w.heap.size 2 1 v vs.length (vs.map (Value.int .i64))) ∧ Below w.heap.size w w'
theorem eachA_all (xs : List (List UInt8)) (j : Nat) (hj : j < xs.length) (h : ((xs.take j).all okA) = true) (h2 : okA xs[j] = true) : ((xs.take (j + 1)).all okA) = true := by
  rw [List.take_add_one, List.all_append, h, List.getElem?_eq_getElem hj]
  simp [h2]
theorem eachA_bad (xs : List (List UInt8)) (j : Nat) (hj : j < xs.length) (h2 : okA xs[j] = false) : (xs.all okA) = false := by
  rw [Bool.eq_false_iff]
  intro h
  rw [List.all_eq_true] at h
  have := h _ (List.getElem_mem hj)
  rw [h2] at this
  cases this
theorem eachA_val (xs : List (List UInt8)) (j : Nat) (hj : j < xs.length) : (xs.take j).map angE ++ [angE xs[j]] = (xs.take (j + 1)).map angE := by
  rw [List.take_add_one, List.map_append, List.getElem?_eq_getElem hj]
  rfl
theorem bs_lenE (xs : List (List UInt8)) (j : Nat) (hj : j ≤ xs.length) : ((xs.take j).map angE).length = j := by simp; omega

set_option maxRecDepth 100000 in
set_option maxHeartbeats 2000000 in
theorem eachA_any (g o cap : Nat) (xs : List (List UInt8)) (w : World) (hn : xs.length ≤ 1048577) (hg : g < w.heap.size)
    (hc : ∀ j, (h : j < xs.length) → w.cell? ⟨g, o + j, none⟩ = some (.string ⟨xs[j].toArray⟩)) (hsz : ∀ j, (h : j < xs.length) → (⟨xs[j].toArray⟩ : ByteArray).size ≤ 1048576) (ht : TabOK w) (he : ErrOK w) (hlen : LenOK w) :
    Calls Tryd.prog 46 #[.slice (some ⟨g, o, none⟩) xs.length cap, .func (.func 49) #[] #[]] w (EachPostA (xs.all okA) (xs.map angE) w) := by
  have T1 := Lib.hid ht
  have E1 := Lib.hid he
  have L1 := Lib.hid hlen
  have HC := Lib.hid hc
  have PT := Lib.hid hsz
  clear ht he hlen hc hsz
  have hmk := run_make_row' (P := Tryd.prog) 55 2 (.int .i64 0) 8 Tryd.underlying55 info_i64 rfl .i64 .i64 xs.length (by omega) (by omega)
  have hmade : (w.alloc (.cells (madeCells #[.int .i64 0] xs.length) 2)).ownsRow w.heap.size 2 1 (.slice (some ⟨w.heap.size, 0, none⟩) xs.length xs.length) xs.length ((((xs.take 0).map angE) ++ List.replicate (xs.length - 0) 0).map (Value.int .i64)) := by
    have h1 := World.ownsRow_lit (base := w.heap.size) (e := 2) (size := 1) w (madeCells #[.int .i64 0] xs.length) xs.length (Nat.le_refl _) (by unfold maxLen; omega) (by rw [size_madeCells, Nat.mul_one])
    rw [made_list] at h1
    simpa using h1
  have MADE := Lib.hid hmade
  clear hmade
  go_enter Tryd.func46, Tryd.ntmps46
  go_wp2_with fail
  clear hmk
  go_loopg [16] (xs.length + 1) (fun kx i wr => ∃ j : Nat, i = .int .i64 (j : Int) ∧ j ≤ xs.length ∧ kx = xs.length + 1 - j ∧ Hid (wr.ownsRow w.heap.size 2 1 (.slice (some ⟨w.heap.size, 0, none⟩) xs.length xs.length) xs.length ((((xs.take j).map angE) ++ List.replicate (xs.length - j) 0).map (Value.int .i64))) ∧ Hid (Below w.heap.size w wr) ∧ Hid (((xs.take j).all okA) = true))
  case atStart => exact ⟨0, rfl, Nat.zero_le _, rfl, MADE, Lib.hid ((Below.refl _ _).alloc (Nat.le_refl _) _), Lib.hid (by simp)⟩
  case round =>
    obtain ⟨j, rfl, hj, rfl, HO, HB, HA⟩ := hrel
    by_cases hlt : j < xs.length
    · have hread : wr.cell? ⟨g, o + j, none⟩ = some (.string ⟨xs[j].toArray⟩) := (HB.out.cell (p := ⟨g, o + j, none⟩) hg).trans (HC.out j hlt)
      have R : Hid (∀ w, TabOK w → ErrOK w → LenOK w → Calls Tryd.prog 49 #[.string ⟨xs[j].toArray⟩] w fun e w' => e = .returned (.tuple #[.int .i64 (angE xs[j]), .bool (okA xs[j])]) ∧ Below w.heap.size w w') := Lib.hid (fun w a b c => implRA_any ⟨(xs[j]).toArray⟩ w (PT.out j hlt) a b c)
      have NX := Lib.hid (eachA_all xs j hlt HA.out)
      have BD := Lib.hid (eachA_bad xs j hlt)
      have EV := Lib.hid (eachA_val xs j hlt)
      have BL := Lib.hid (bs_lenE xs j hj)
      have j0 : (0 : Int) ≤ (j : Int) := by omega
      have j1 : (j : Int) < (xs.length : Int) := by omega
      have T2 := Lib.hid (T1.out.below HB.out)
      have E2 := Lib.hid (E1.out.below HB.out)
      have L2 := Lib.hid (L1.out.below HB.out)
      generalize angE xs[j] = n at *
      generalize okA xs[j] = b at *
      cases b with
      | false =>
        have HF := Lib.hid (BD.out rfl)
        go_wp2_with fail
        refine (R.out _ T2.out E2.out L2.out).mono ?_
        rintro e w2 ⟨rfl, hb2⟩
        have HB2 := Lib.hid (HB.out.trans (hb2.mono HB.out.size))
        clear hb2 hread
        go_wp2_with fail
        go_returns
        exact ⟨.slice none 0 0, by rw [HF.out]; rfl, by rw [HF.out]; simp, HB2.out⟩
      | true =>
        have NA := Lib.hid (NX.out rfl)
        go_wp2_with fail
        refine (R.out _ T2.out E2.out L2.out).mono ?_
        rintro e w2 ⟨rfl, hb2⟩
        have HB2 := Lib.hid (HB.out.trans (hb2.mono HB.out.size))
        have hown2 := ownsRow_below HO.out hb2
        have hc3 : w2.cell? ⟨w.heap.size, j, none⟩ = some (.int .i64 0) := by
          rw [hown2.cellAt _ (by omega)]
          have := get_next ((xs.take j).map angE) xs.length (by rw [BL.out]; exact hlt)
          rw [BL.out] at this
          exact this
        have hf3 : w2.frozen? ⟨w.heap.size, j, none⟩ = false := hown2.frozenAt _
        have hst := (hown2.stored j (.int .i64 n)).1
        have hsn := set_next ((xs.take j).map angE) xs.length n (by rw [BL.out]; exact hlt)
        rw [BL.out] at hsn
        rw [hsn, EV.out] at hst
        have ST := Lib.hid hst
        have hbf : Below w.heap.size w (w2.setCell ⟨w.heap.size, j, none⟩ (.int .i64 n)) := HB2.out.setCell (p := ⟨w.heap.size, j, none⟩) (Nat.le_refl _) _
        have HBF := Lib.hid hbf
        clear hown2 hst hbf hb2 hread hsn
        go_wp2_with fail
        go_roundg (xs.length + 1 - (j + 1))
        case measure => omega
        case rel => exact ⟨j + 1, by go_num, by omega, rfl, (by have h := ST.out; rw [Nat.sub_add_eq] at *; exact Lib.hid h), HBF, NA⟩
    · obtain rfl : j = xs.length := by omega
      have HO2 := HO.out
      rw [Nat.sub_self, List.replicate_zero, List.append_nil, List.take_length] at HO2
      have HA2 := HA.out
      rw [List.take_length] at HA2
      have HO3 := Lib.hid HO2
      have HA3 := Lib.hid HA2
      clear HO2 HA2
      go_wp2_with fail
      go_returns
      exact ⟨.slice (some ⟨w.heap.size, 0, none⟩) xs.length xs.length, by rw [HA3.out]; rfl, fun _ => by rw [List.length_map]; exact HO3.out, HB.out⟩
end Go.Proofs.YtjghopepgfgebaaDoor
